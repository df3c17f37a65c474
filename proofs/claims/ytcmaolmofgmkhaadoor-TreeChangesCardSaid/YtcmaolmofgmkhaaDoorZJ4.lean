/- Texts of this claim, joined (J4). -/
import Derived.Test.YtcmaolmofgmkhaaDoorZJ3

set_option linter.unusedVariables false
set_option linter.unusedSimpArgs false
set_option maxHeartbeats 4000000
section
namespace Go.Proofs.YtcmaolmofgmkhaaDoor.Te
open Go Go.RowKit
open Rely Auto Own Seat Sha
structure UpOk (ts : List NdV) (L x : Nat) : Prop where
  nm:(ndi ts x).n.nm=0
  sg:(ndi ts x).n.sg=List.replicate 32 0
  inc:∀ k,k<(ndi ts x).n.ms.length→∀ j,j<k→nth (ndi ts x).n.ms j<nth (ndi ts x).n.ms k
  mem:∀ i∈(ndi ts x).n.ms,∃ m:Nat,i=((m:Nat):Int)∧m<L∧abv ((x:Nat):Int) (2*((m:Nat):Int)) ((L:Nat):Int)=true∧(ndi ts (2*m)).n.us=true∧∀ y:Nat,y<ts.length→y%2=1→y≠x→(ndi ts y).n.us=true→abv ((x:Nat):Int) ((y:Nat):Int) ((L:Nat):Int)=true→abv ((y:Nat):Int) (2*((m:Nat):Int)) ((L:Nat):Int)=true→((m:Nat):Int)∈(ndi ts y).n.ms
structure Form (ts : List NdV) (L : Nat) : Prop where
  tr:Qaw ((L:Nat):Int)=true
  len:ts.length+1=2*L
  nms:∀ i j,i<L→j<L→(ndi ts (2*i)).n.us=true→(ndi ts (2*j)).n.us=true→(ndi ts (2*i)).n.nm=(ndi ts (2*j)).n.nm→i=j
  zero:∀ x,x<ts.length→(ndi ts x).n.us=false→(ndi ts x).n=zn.n
  leaf:∀ i,i<L→(ndi ts (2*i)).n.us=true→QaD (ndi ts (2*i)).n=true
  up:∀ x,x<ts.length→x%2=1→(ndi ts x).n.us=true→UpOk ts L x
theorem QiW {a b:NdC} (h:Qb2 a b=true):a=b:=by
  unfold Qb2 at h
  simp only [Bool.and_eq_true,beq_iff_eq,decide_eq_true_eq] at h
  obtain ⟨⟨⟨⟨⟨h1,h2⟩,h3⟩,h4⟩,h5⟩,h6⟩:=h
  cases a; cases b
  simp only at h1 h2 h3 h4 h5 h6
  subst h1; subst h2; subst h3; subst h4; subst h5; subst h6; rfl
theorem Qc4 {ts : List NdV} {n:Int}:∀ {k:Nat},n∈QaU ts k↔∃ i,i<k∧(ndi ts (2*i)).n.us=true∧(ndi ts (2*i)).n.nm=n
  | 0=>⟨fun h=>(by cases h),fun ⟨i,h,_⟩=>absurd h (Nat.not_lt_zero _)⟩
  | k+1=>by
    unfold QaU
    split
    · rename_i hu
      rw [List.mem_append,Qc4,List.mem_singleton]
      constructor
      · rintro (⟨i,h1,h2,h3⟩ | h)
        · exact ⟨i,by omega,h2,h3⟩
        · exact ⟨k,by omega,hu,h.symm⟩
      · rintro ⟨i,h1,h2,h3⟩
        by_cases e:i=k
        · subst e; exact .inr h3.symm
        · exact .inl ⟨i,by omega,h2,h3⟩
    · rename_i hu
      rw [Qc4]
      constructor
      · rintro ⟨i,h1,h2,h3⟩; exact ⟨i,by omega,h2,h3⟩
      · rintro ⟨i,h1,h2,h3⟩
        by_cases e:i=k
        · subst e; exact absurd h2 hu
        · exact ⟨i,by omega,h2,h3⟩
theorem QbU {ts : List NdV}:∀ {k:Nat},(QaU ts k).Nodup↔∀ i j,i<k→j<k→(ndi ts (2*i)).n.us=true→(ndi ts (2*j)).n.us=true→(ndi ts (2*i)).n.nm=(ndi ts (2*j)).n.nm→i=j
  | 0=>⟨fun _ i j h=>absurd h (Nat.not_lt_zero _),fun _=>List.nodup_nil⟩
  | k+1=>by
    constructor
    · intro h i j hi hj ui uj e
      have hk:(QaU ts k).Nodup:=by
        unfold QaU at h
        split at h
        · exact (List.nodup_append.1 h).1
        · exact h
      have key:∀ i,i<k→(ndi ts (2*i)).n.us=true→(ndi ts (2*k)).n.us=true→(ndi ts (2*i)).n.nm≠(ndi ts (2*k)).n.nm:=fun i hi ui uk e=>by
        unfold QaU at h
        rw [if_pos uk] at h
        exact (List.nodup_append.1 h).2.2 _ (Qc4.2 ⟨i,hi,ui,rfl⟩) _ (List.mem_singleton.2 rfl) e
      by_cases e1:i=k
      · by_cases e2:j=k
        · omega
        · exact absurd e.symm (key j (by omega) uj (e1▸ui) |> fun h q=>h (e1▸q))
      · by_cases e2:j=k
        · exact absurd e (key i (by omega) ui (e2▸uj) |> fun h q=>h (e2▸q))
        · exact QbU.1 hk i j (by omega) (by omega) ui uj e
    · intro h
      have hk:(QaU ts k).Nodup:=QbU.2 fun i j hi hj=>h i j (by omega) (by omega)
      unfold QaU
      split
      · rename_i hu
        refine QcE hk fun hm=>?_
        obtain ⟨i,hi,ui,e⟩:=Qc4.1 hm
        have:=h i k (by omega) (by omega) ui hu e
        omega
      · exact hk
theorem Qct {L m:Nat} (hTr:Qaw ((L:Nat):Int)=true) (h:m+1=2*L):leaves ((m:Nat):Int)=((L:Nat):Int):=by
  rcases (show (L=1∧m=1)∨(L=2∧m=3)∨(L=4∧m=7)∨(L=8∧m=15)∨(L=16∧m=31)∨(L=32∧m=63) by have:=Qay hTr; omega) with ⟨rfl,rfl⟩ | ⟨rfl,rfl⟩ | ⟨rfl,rfl⟩ | ⟨rfl,rfl⟩ | ⟨rfl,rfl⟩ | ⟨rfl,rfl⟩ <;> decide +kernel
theorem Qgf {ts : List NdV} {L x:Nat} (hlen:ts.length+1=2*L) (hx:Qax ((x:Nat):Int) ((L:Nat):Int)=true) (ho:x%2=1) (i:Int):QaZ ts ((L:Nat):Int) ((x:Nat):Int) i=true↔∃ m:Nat,i=((m:Nat):Int)∧m<L∧abv ((x:Nat):Int) (2*((m:Nat):Int)) ((L:Nat):Int)=true∧(ndi ts (2*m)).n.us=true∧∀ y:Nat,y<ts.length→y%2=1→y≠x→(ndi ts y).n.us=true→abv ((x:Nat):Int) ((y:Nat):Int) ((L:Nat):Int)=true→abv ((y:Nat):Int) (2*((m:Nat):Int)) ((L:Nat):Int)=true→((m:Nat):Int)∈(ndi ts y).n.ms:=by
  constructor
  · intro h
    have h0:=h
    unfold QaZ at h0
    simp only [Bool.and_eq_true,decide_eq_true_eq] at h0
    have hb:=Qca hx
    obtain ⟨m,rfl⟩:=Int.eq_ofNat_of_zero_le (show 0≤i by omega)
    have hm:m<L:=by omega
    have ha:abv ((x:Nat):Int) (2*((m:Nat):Int)) ((L:Nat):Int)=true:=by
      rw [Qfh hx (by omega),decide_eq_true h0.1.1.1,decide_eq_true h0.1.1.2]; rfl
    refine ⟨m,rfl,hm,ha,?_,fun y hy hyo hyx hyu h1 h2=>?_⟩
    · have:=h0.1.2; rwa [show (2*((m:Nat):Int)).toNat=2*m by omega] at this
    · by_cases hm2:((m:Nat):Int)∈(ndi ts y).n.ms
      · exact hm2
      · have hyn:Qax ((y:Nat):Int) ((L:Nat):Int)=true:=by
          unfold abv at h2
          simp only [Bool.and_eq_true] at h2
          exact h2.1.1
        have:=QeH (ts:=ts) hx (by omega) (by omega) ha hyn (by omega) (by omega) h1 h2 hyu hm2
        rw [this] at h; cases h
  · rintro ⟨m,rfl,hm,ha,hu,hall⟩
    exact QdQ hx (by omega) (by omega) ha hu fun y hy hyo hyx hyu h1 h2=>hall y (by omega) hyo (by omega) hyu h1 h2
theorem QlG {ms : List Int} {i:Int}:i∈ms↔∃ k,k<ms.length∧nth ms k=i:=⟨QhQ,fun ⟨k,hk,e⟩=>by
  rw [←e]; unfold nth; rw [List.getD_eq_getElem?_getD,List.getElem?_eq_getElem hk]; exact List.getElem_mem hk⟩
theorem QgJ {ts : List NdV} {L x:Nat} (hTr:Qaw ((L:Nat):Int)=true) (hlen:ts.length+1=2*L) (hx:x<ts.length) (ho:x%2=1) (h:Qbj ts ((L:Nat):Int) x=true):UpOk ts L x:=by
  have hxn:Qax ((x:Nat):Int) ((L:Nat):Int)=true:=QaY hTr (by omega)
  have hk:=QiA (by omega) h
  have h0:=h
  unfold Qbj at h0
  rw [if_neg (by omega)] at h0
  simp only [Bool.and_eq_true,decide_eq_true_eq] at h0
  refine ⟨h0.1.1,h0.1.2,rises fun k hk2=>?_,fun i hi=>?_⟩
  · have:=hk k hk2
    unfold msOk at this
    simp only [Bool.and_eq_true,Bool.or_eq_true,beq_iff_eq,decide_eq_true_eq] at this
    exact this.1
  · obtain ⟨k,hk2,rfl⟩:=QhQ hi
    have:=hk k hk2
    unfold msOk at this
    rw [Bool.and_eq_true] at this
    exact (Qgf hlen hxn ho _).1 this.2
theorem QgI {ts : List NdV} {L x:Nat} (hTr:Qaw ((L:Nat):Int)=true) (hlen:ts.length+1=2*L) (hx:x<ts.length) (ho:x%2=1) (h:UpOk ts L x):Qbj ts ((L:Nat):Int) x=true:=by
  have hxn:Qax ((x:Nat):Int) ((L:Nat):Int)=true:=QaY hTr (by omega)
  rw [Qbi (by omega) h.nm h.sg]
  refine Qf2 fun k hk=>?_
  unfold msOk
  rw [Bool.and_eq_true]
  refine ⟨?_,(Qgf hlen hxn ho _).2 (h.mem _ (QlG.2 ⟨k,hk,rfl⟩))⟩
  rw [Bool.or_eq_true]
  by_cases e:k=0
  · exact .inl (by rw [e]; rfl)
  · exact .inr (decide_eq_true (h.inc k hk (k-1) (by omega)))
theorem QcT {ts : List NdV} (htl:ts.length≤100000) (h:chkT ts=true):∃ L:Nat,Form ts L∧anyU ts (L/2)=true:=by
  obtain ⟨L,hL,hL3,hlen,hTr⟩:=Qld htl h
  have hn:=fun x hx=>Qei hL h (x:=x) hx
  have h0:=h
  unfold chkT at h0
  rw [Qbv hL] at h0
  simp only [Bool.and_eq_true] at h0
  refine ⟨L,⟨hTr,hlen,?_,fun x hx hu=>?_,fun i hi hu=>?_,fun x hx ho hu=>QgJ hTr hlen hx ho (QdR hL h hx hu)⟩,h0.1.2⟩
  · have:=h0.1.1.2
    unfold Qbr at this
    rw [show (ts.length+1)/2=L by omega] at this
    exact QbU.1 (of_decide_eq_true this)
  · have:=hn x hx
    unfold QaM at this
    rw [if_neg (by rw [hu]; decide)] at this
    exact QiW this
  · have:=QdR hL h (x:=2*i) (by omega) hu
    rwa [Qcc (by omega)] at this
theorem QfY {ts : List NdV} {L:Nat} (h:Form ts L) (hr:anyU ts (L/2)=true):chkT ts=true:=by
  have hL:=Qct h.tr h.len
  have h1:L≠0:=by have:=Qay h.tr; omega
  have hd:Qbr ts=true:=by
    unfold Qbr
    rw [show (ts.length+1)/2=L by have:=h.len; omega]
    exact decide_eq_true (QbU.2 h.nms)
  rw [chk3 (Qbv hL) h1 hd hr]
  refine List.all_eq_true.2 fun x hx=>?_
  have hx:=List.mem_range.1 hx
  unfold QaM
  split
  · rename_i hu
    by_cases ho:x%2=1
    · exact QgI h.tr h.len hx ho (h.up x hx ho hu)
    · rw [Qcc (by omega)]
      have:=h.leaf (x/2) (by have:=h.len; omega) (by rw [show 2*(x/2)=x by omega]; exact hu)
      rwa [show 2*(x/2)=x by omega] at this
  · rename_i hu
    rw [h.zero x hx (by simpa using hu)]
    exact Qe0 _
theorem Form.upd {ts rs:List NdV} {L m:Nat} {nd:NdC} (h:Form ts L) (hm:m<L) (hl:rs.length=ts.length) (hs:nd.us=true→QaD nd=true) (hz:nd.us=false→nd=zn.n) (hn:nd.us=true→∀ j,j<L→j≠m→(ndi ts (2*j)).n.us=true→(ndi ts (2*j)).n.nm≠nd.nm)
    (r1:(ndi rs (2*m)).n=nd) (r2:∀ x,x<ts.length→x%2=1→abv ((x:Nat):Int) (2*((m:Nat):Int)) ((L:Nat):Int)=true→(ndi rs x).n=zn.n) (r3:∀ x,x<ts.length→x%2=1→abv ((x:Nat):Int) (2*((m:Nat):Int)) ((L:Nat):Int)=false→(ndi rs x).n=(ndi ts x).n) (r4:∀ j,j<L→j≠m→(ndi rs (2*j)).n=(ndi ts (2*j)).n):Form rs L:=by
  have hlen:=h.len
  have odd:∀ x,x<ts.length→x%2=1→(ndi rs x).n.us=true→abv ((x:Nat):Int) (2*((m:Nat):Int)) ((L:Nat):Int)=false:=fun x hx ho hu=>by
    cases ha:abv ((x:Nat):Int) (2*((m:Nat):Int)) ((L:Nat):Int) with
    | false=>rfl
    | true=>rw [r2 x hx ho ha] at hu; cases hu
  refine ⟨h.tr,by rw [hl]; exact hlen,fun i j hi hj ui uj e=>?_,fun x hx hu=>?_,fun i hi hu=>?_,fun x hx ho hu=>?_⟩
  · by_cases e1:i=m
    · by_cases e2:j=m
      · omega
      · subst e1
        rw [r1] at ui e
        rw [r4 j hj e2] at uj e
        exact absurd e.symm (hn ui j hj e2 uj)
    · rw [r4 i hi e1] at ui e
      by_cases e2:j=m
      · subst e2
        rw [r1] at uj e
        exact absurd e (hn uj i hi e1 ui)
      · rw [r4 j hj e2] at uj e
        exact h.nms i j hi hj ui uj e
  · rw [hl] at hx
    by_cases ho:x%2=1
    · cases ha:abv ((x:Nat):Int) (2*((m:Nat):Int)) ((L:Nat):Int) with
      | true=>exact r2 x hx ho ha
      | false=>rw [r3 x hx ho ha] at hu ⊢; exact h.zero x hx hu
    · by_cases e:x/2=m
      · have e2:x=2*m:=by omega
        rw [e2,r1] at hu ⊢
        exact hz hu
      · have e2:x=2*(x/2):=by omega
        rw [e2,r4 _ (by omega) e] at hu ⊢
        exact h.zero _ (by omega) hu
  · by_cases e:i=m
    · subst e
      rw [r1] at hu ⊢
      exact hs hu
    · rw [r4 i hi e] at hu ⊢
      exact h.leaf i hi hu
  · rw [hl] at hx
    have ha:=odd x hx ho hu
    have ex:=r3 x hx ho ha
    rw [ex] at hu
    obtain ⟨u1,u2,u3,u4⟩:=h.up x hx ho hu
    refine ⟨by rw [ex]; exact u1,by rw [ex]; exact u2,by rw [ex]; exact u3,fun i hi=>?_⟩
    rw [ex] at hi
    obtain ⟨j,e,hj,ab,uj,hy⟩:=u4 i hi
    have hjm:j≠m:=fun q=>by rw [q,ha] at ab; cases ab
    refine ⟨j,e,hj,ab,by rw [r4 j hj hjm]; exact uj,fun y hy1 hy2 hy3 hy4 hy5 hy6=>?_⟩
    rw [hl] at hy1
    have ey:=r3 y hy1 hy2 (odd y hy1 hy2 hy4)
    rw [ey] at hy4 ⊢
    exact hy y hy1 hy2 hy3 hy4 hy5 hy6
end Go.Proofs.YtcmaolmofgmkhaaDoor.Te
end
section
namespace Go.Proofs.YtcmaolmofgmkhaaDoor.Te
open Go Go.RowKit
open Rely Auto Own Seat Sha
set_option maxRecDepth 100000 in
theorem Qjv : QbH (fun h x=>decide (16<h) || (bel x (2*h)==bel x h&&(List.range (2*h.toNat-1)).all fun y=>abv x ((y:Nat):Int) (2*h)==abv x ((y:Nat):Int) h))=true:=by decide +kernel
theorem QcS {x y h:Nat} (hx:Qax ((x:Nat):Int) ((h:Nat):Int)=true) (h16:h≤16) (hy:y+1<2*h):bel ((x:Nat):Int) ((2*h:Nat):Int)=bel ((x:Nat):Int) ((h:Nat):Int)∧abv ((x:Nat):Int) ((y:Nat):Int) ((2*h:Nat):Int)=abv ((x:Nat):Int) ((y:Nat):Int) ((h:Nat):Int):=by
  have:=QaN Qjv hx
  rw [decide_eq_false (by omega),Bool.false_or,Bool.and_eq_true] at this
  have e:2*((h:Nat):Int)=((2*h:Nat):Int):=by omega
  rw [e] at this
  exact ⟨eq_of_beq this.1,eq_of_beq (List.all_eq_true.1 this.2 y (List.mem_range.2 (by omega)))⟩
theorem QiP {h : Nat} (h1:1≤h) (hT:Qaw ((2*h:Nat):Int)=true):Qaw ((h:Nat):Int)=true∧h≤16:=by
  rcases (show h=1∨h=2∨h=4∨h=8∨h=16 by have:=Qay hT; omega) with rfl | rfl | rfl | rfl | rfl <;> exact ⟨by decide,by decide⟩
theorem Form.half {ts : List NdV} {h:Nat} (f:Form ts (2*h)) (h1:1≤h):Form (ts.take (2*h-1)) h:=by
  obtain ⟨hT,h16⟩:=QiP h1 f.tr
  have hlen:=f.len
  have hl:(ts.take (2*h-1)).length=2*h-1:=by rw [List.length_take]; omega
  have at_:∀ x,x<2*h-1→ndi (ts.take (2*h-1)) x=ndi ts x:=fun x hx=>Qb3 hx
  refine ⟨hT,by omega,fun i j hi hj ui uj e=>?_,fun x hx hu=>?_,fun i hi hu=>?_,fun x hx ho hu=>?_⟩
  · rw [at_ _ (by omega)] at ui e
    rw [at_ _ (by omega)] at uj e
    exact f.nms i j (by omega) (by omega) ui uj e
  · rw [hl] at hx
    rw [at_ x hx] at hu ⊢
    exact f.zero x (by omega) hu
  · rw [at_ _ (by omega)] at hu ⊢
    exact f.leaf i (by omega) hu
  · rw [hl] at hx
    have hxn:Qax ((x:Nat):Int) ((h:Nat):Int)=true:=QaY hT (by omega)
    have hxn2:Qax ((x:Nat):Int) ((2*h:Nat):Int)=true:=QaY f.tr (by omega)
    have ex:=at_ x hx
    rw [ex] at hu
    obtain ⟨u1,u2,u3,u4⟩:=f.up x (by omega) ho hu
    refine ⟨by rw [ex]; exact u1,by rw [ex]; exact u2,by rw [ex]; exact u3,fun i hi=>?_⟩
    rw [ex] at hi
    obtain ⟨j,e,hj,ab,uj,hy⟩:=u4 i hi
    have hjh:j<h:=by
      rw [Qfh hxn2 (by omega),(QcS hxn h16 (y:=0) (by omega)).1,Bool.and_eq_true,decide_eq_true_eq,decide_eq_true_eq] at ab
      have:=Qca hxn
      omega
    have e2:2*((j:Nat):Int)=((2*j:Nat):Int):=by omega
    refine ⟨j,e,hjh,?_,by rw [at_ _ (by omega)]; exact uj,fun y hy1 hy2 hy3 hy4 hy5 hy6=>?_⟩
    · rw [e2,(QcS hxn h16 (by omega)).2,←e2] at ab; exact ab
    · rw [hl] at hy1
      have hyn:Qax ((y:Nat):Int) ((h:Nat):Int)=true:=QaY hT (by omega)
      rw [at_ y hy1] at hy4 ⊢
      rw [←(QcS hxn h16 (by omega)).2] at hy5
      rw [e2,←(QcS hyn h16 (by omega)).2,←e2] at hy6
      exact hy y (by omega) hy2 hy3 hy4 hy5 hy6
theorem Form.dbl {ts : List NdV} {h:Nat} (f:Form ts h) (h16:h≤16):Form (ts++List.replicate (ts.length+1) zn) (2*h):=by
  have hlen:=f.len
  have hT2:Qaw ((2*h:Nat):Int)=true:=by
    rcases (show h=1∨h=2∨h=4∨h=8∨h=16 by have:=Qay f.tr; omega) with rfl | rfl | rfl | rfl | rfl <;> decide
  have hl:(ts++List.replicate (ts.length+1) zn).length=2*ts.length+1:=by rw [List.length_append,qZ]; omega
  have at_:∀ x,x<ts.length→ndi (ts++List.replicate (ts.length+1) zn) x=ndi ts x:=fun x hx=>by rw [Qbp,if_pos hx]
  have az:∀ x,ts.length≤x→x<2*ts.length+1→ndi (ts++List.replicate (ts.length+1) zn) x=zn:=fun x hx hx2=>by rw [Qbp,if_neg (by omega),QbF zn (by omega)]
  have old:∀ x,x<2*ts.length+1→(ndi (ts++List.replicate (ts.length+1) zn) x).n.us=true→x<ts.length:=fun x hx hu=>by
    rcases Nat.lt_or_ge x ts.length with h | h
    · exact h
    · rw [az x h hx] at hu; cases hu
  refine ⟨hT2,by omega,fun i j hi hj ui uj e=>?_,fun x hx hu=>?_,fun i hi hu=>?_,fun x hx ho hu=>?_⟩
  · have q1:=old _ (by omega) ui
    have q2:=old _ (by omega) uj
    rw [at_ _ q1] at ui e
    rw [at_ _ q2] at uj e
    exact f.nms i j (by omega) (by omega) ui uj e
  · rw [hl] at hx
    rcases Nat.lt_or_ge x ts.length with q | q
    · rw [at_ x q] at hu ⊢; exact f.zero x q hu
    · rw [az x q hx]
  · have q1:=old _ (by omega) hu
    rw [at_ _ q1] at hu ⊢
    exact f.leaf i (by omega) hu
  · rw [hl] at hx
    have q1:=old x hx hu
    have hxn:Qax ((x:Nat):Int) ((h:Nat):Int)=true:=QaY f.tr (by omega)
    have ex:=at_ x q1
    rw [ex] at hu
    obtain ⟨u1,u2,u3,u4⟩:=f.up x q1 ho hu
    refine ⟨by rw [ex]; exact u1,by rw [ex]; exact u2,by rw [ex]; exact u3,fun i hi=>?_⟩
    rw [ex] at hi
    obtain ⟨j,e,hj,ab,uj,hy⟩:=u4 i hi
    have e2:2*((j:Nat):Int)=((2*j:Nat):Int):=by omega
    refine ⟨j,e,by omega,?_,by rw [at_ _ (by omega)]; exact uj,fun y hy1 hy2 hy3 hy4 hy5 hy6=>?_⟩
    · rw [e2,(QcS hxn h16 (by omega)).2,←e2]; exact ab
    · rw [hl] at hy1
      have q2:=old y hy1 hy4
      have hyn:Qax ((y:Nat):Int) ((h:Nat):Int)=true:=QaY f.tr (by omega)
      rw [at_ y q2] at hy4 ⊢
      rw [(QcS hxn h16 (by omega)).2] at hy5
      rw [e2,(QcS hyn h16 (by omega)).2,←e2] at hy6
      exact hy y q2 hy2 hy3 hy4 hy5 hy6
theorem QeU {xs : List Int} {x j:Int} {c:Nat}:j∈insA xs c x↔j=x∨j∈xs:=by
  unfold insA
  rw [List.mem_append,List.mem_append,List.mem_singleton]
  constructor
  · rintro ((h | h) | h)
    · exact .inr (List.mem_of_mem_take h)
    · exact .inl h
    · exact .inr (List.mem_of_mem_drop h)
  · rintro (h | h)
    · exact .inl (.inr h)
    · rw [←List.take_append_drop c xs,List.mem_append] at h
      rcases h with h | h
      · exact .inl (.inl h)
      · exact .inr h
theorem QlD {ms : List Int} (h:∀ k,k<ms.length→∀ j,j<k→nth ms j<nth ms k):ms.Pairwise (· < ·):=by
  rw [List.pairwise_iff_getElem]
  intro i j hi hj hij
  have h1:=h j hj i hij
  unfold nth at h1
  rw [List.getD_eq_getElem?_getD,List.getD_eq_getElem?_getD,List.getElem?_eq_getElem hi,List.getElem?_eq_getElem hj] at h1
  exact h1
theorem QlF {ms : List Int} (h:ms.Pairwise (· < ·)):∀ k,k<ms.length→∀ j,j<k→nth ms j<nth ms k:=fun k hk j hj=>by
  have:=List.pairwise_iff_getElem.1 h j k (by omega) hk hj
  unfold nth
  rw [List.getD_eq_getElem?_getD,List.getD_eq_getElem?_getD,List.getElem?_eq_getElem hk,List.getElem?_eq_getElem (show j<ms.length by omega)]
  exact this
theorem Qe6 {xs : List Int} {x:Int} (h:xs.Pairwise (· < ·)) (hx:x∉xs):(insA xs (posI xs x) x).Pairwise (· < ·):=by
  have h1:=Qe7 x (h.imp fun q=>Int.le_of_lt q)
  have h2:(insA xs (posI xs x) x).Nodup:=by
    have hn:xs.Nodup:=List.nodup_iff_pairwise_ne.2 (h.imp fun q=>by omega)
    unfold insA
    rw [List.append_assoc]
    have e:=List.take_append_drop (posI xs x) xs
    rw [←e] at hn hx
    rw [List.nodup_append] at hn ⊢
    rw [List.mem_append,not_or] at hx
    refine ⟨hn.1,?_,fun a ha b hb=>?_⟩
    · rw [List.singleton_append,List.nodup_cons]
      exact ⟨hx.2,hn.2.1⟩
    · rw [List.singleton_append,List.mem_cons] at hb
      rcases hb with rfl | hb
      · exact fun e=>hx.1 (e▸ha)
      · exact hn.2.2 a ha b hb
  exact (h1.and (List.nodup_iff_pairwise_ne.1 h2)).imp fun q=>by omega
theorem Form.add {ts rs:List NdV} {L m:Nat} {nd:NdC} (h:Form ts L) (hm:m<L) (hf:(ndi ts (2*m)).n.us=false) (hl:rs.length=ts.length) (hs:QaD nd=true) (hn:∀ j,j<L→(ndi ts (2*j)).n.us=true→(ndi ts (2*j)).n.nm≠nd.nm)
    (r1:(ndi rs (2*m)).n=nd) (r2:∀ x,x<ts.length→x%2=1→(ndi ts x).n.us=true→abv ((x:Nat):Int) (2*((m:Nat):Int)) ((L:Nat):Int)=true→(ndi rs x).n={ (ndi ts x).n with ms:=insA (ndi ts x).n.ms (posI (ndi ts x).n.ms ((m:Nat):Int)) ((m:Nat):Int) })
    (r3:∀ x,x<ts.length→x%2=1→((ndi ts x).n.us=false∨abv ((x:Nat):Int) (2*((m:Nat):Int)) ((L:Nat):Int)=false)→(ndi rs x).n=(ndi ts x).n) (r4:∀ j,j<L→j≠m→(ndi rs (2*j)).n=(ndi ts (2*j)).n):Form rs L:=by
  have hlen:=h.len
  have hus:nd.us=true:=by unfold QaD at hs; simp only [Bool.and_eq_true] at hs; exact hs.1.1.1
  have odd:∀ x,x<ts.length→x%2=1→(ndi rs x).n.us=(ndi ts x).n.us:=fun x hx ho=>by
    cases hu:(ndi ts x).n.us with
    | false=>rw [r3 x hx ho (.inl hu)]; exact hu
    | true =>
      cases ha:abv ((x:Nat):Int) (2*((m:Nat):Int)) ((L:Nat):Int) with
      | false=>rw [r3 x hx ho (.inr ha)]; exact hu
      | true=>rw [r2 x hx ho hu ha]; exact hu
  have more:∀ y,y<ts.length→y%2=1→∀ j:Int,j∈(ndi ts y).n.ms→j∈(ndi rs y).n.ms:=fun y hy ho j hj=>by
    cases hu:(ndi ts y).n.us with
    | false=>rw [r3 y hy ho (.inl hu)]; exact hj
    | true =>
      cases ha:abv ((y:Nat):Int) (2*((m:Nat):Int)) ((L:Nat):Int) with
      | false=>rw [r3 y hy ho (.inr ha)]; exact hj
      | true=>rw [r2 y hy ho hu ha]; exact QeU.2 (.inr hj)
  have lus:∀ j,j<L→(ndi ts (2*j)).n.us=true→(ndi rs (2*j)).n.us=true:=fun j hj hu=>by
    rw [r4 j hj fun e=>by rw [e,hf] at hu; cases hu]; exact hu
  refine ⟨h.tr,by rw [hl]; exact hlen,fun i j hi hj ui uj e=>?_,fun x hx hu=>?_,fun i hi hu=>?_,fun x hx ho hu=>?_⟩
  · by_cases e1:i=m
    · by_cases e2:j=m
      · omega
      · subst e1
        rw [r1] at e
        rw [r4 j hj e2] at uj e
        exact absurd e.symm (hn j hj uj)
    · rw [r4 i hi e1] at ui e
      by_cases e2:j=m
      · subst e2
        rw [r1] at e
        exact absurd e (hn i hi ui)
      · rw [r4 j hj e2] at uj e
        exact h.nms i j hi hj ui uj e
  · rw [hl] at hx
    by_cases ho:x%2=1
    · rw [odd x hx ho] at hu
      rw [r3 x hx ho (.inl hu)]
      exact h.zero x hx hu
    · by_cases e:x/2=m
      · have e2:x=2*m:=by omega
        rw [e2,r1,hus] at hu
        cases hu
      · have e2:x=2*(x/2):=by omega
        rw [e2,r4 _ (by omega) e] at hu ⊢
        exact h.zero _ (by omega) hu
  · by_cases e:i=m
    · subst e; rw [r1]; exact hs
    · rw [r4 i hi e] at hu ⊢
      exact h.leaf i hi hu
  · rw [hl] at hx
    rw [odd x hx ho] at hu
    have hxn:Qax ((x:Nat):Int) ((L:Nat):Int)=true:=QaY h.tr (by omega)
    obtain ⟨u1,u2,u3,u4⟩:=h.up x hx ho hu
    have oldm:∀ i∈(ndi ts x).n.ms,∃ j:Nat,i=((j:Nat):Int)∧j<L∧abv ((x:Nat):Int) (2*((j:Nat):Int)) ((L:Nat):Int)=true∧(ndi rs (2*j)).n.us=true∧∀ y:Nat,y<rs.length→y%2=1→y≠x→(ndi rs y).n.us=true→abv ((x:Nat):Int) ((y:Nat):Int) ((L:Nat):Int)=true→abv ((y:Nat):Int) (2*((j:Nat):Int)) ((L:Nat):Int)=true→((j:Nat):Int)∈(ndi rs y).n.ms:=fun i hi=>by
      obtain ⟨j,e,hj,ab,uj,hy⟩:=u4 i hi
      refine ⟨j,e,hj,ab,lus j hj uj,fun y hy1 hy2 hy3 hy4 hy5 hy6=>?_⟩
      rw [hl] at hy1
      rw [odd y hy1 hy2] at hy4
      exact more y hy1 hy2 _ (hy y hy1 hy2 hy3 hy4 hy5 hy6)
    cases ha:abv ((x:Nat):Int) (2*((m:Nat):Int)) ((L:Nat):Int) with
    | false =>
      have ex:=r3 x hx ho (.inr ha)
      exact ⟨by rw [ex]; exact u1,by rw [ex]; exact u2,by rw [ex]; exact u3,fun i hi=>oldm i (by rw [ex] at hi; exact hi)⟩
    | true =>
      have ex:=r2 x hx ho hu ha
      have hmm:((m:Nat):Int)∉(ndi ts x).n.ms:=fun hi=>by
        obtain ⟨j,e,hj,ab,uj,-⟩:=u4 _ hi
        obtain rfl:m=j:=by omega
        rw [hf] at uj; cases uj
      refine ⟨by rw [ex]; exact u1,by rw [ex]; exact u2,by rw [ex]; exact QlF (Qe6 (QlD u3) hmm),fun i hi=>?_⟩
      rw [ex] at hi
      rcases QeU.1 hi with rfl | hi
      · refine ⟨m,rfl,hm,ha,by rw [r1]; exact hus,fun y hy1 hy2 hy3 hy4 hy5 hy6=>?_⟩
        rw [hl] at hy1
        rw [odd y hy1 hy2] at hy4
        rw [r2 y hy1 hy2 hy4 hy6]
        exact QeU.2 (.inl rfl)
      · exact oldm i hi
end Go.Proofs.YtcmaolmofgmkhaaDoor.Te
end
section
namespace Go.Proofs.YtcmaolmofgmkhaaDoor.Te
open Go Go.RowKit
open Rely Auto Own Seat Sha
def pthL (y n:Int):List Nat:=(List.range 6).filter fun k=>decide (0≤upn y n k)
theorem Qkk : QbH (fun n x=>(List.range 6).all fun a=>(List.range 6).all fun b=>a==b || decide (upn x n a<0) || !(upn x n a==upn x n b))=true:=by decide +kernel
theorem Qda {y n:Int} {k:Nat}:k∈pthL y n↔k<6∧0≤upn y n k:=by unfold pthL; rw [List.mem_filter,List.mem_range,decide_eq_true_eq]
theorem Qhg {y n:Int} (hy:Qax y n=true) {a b:Nat} (ha:a<6) (hb:b<6) (h:0≤upn y n a) (e:upn y n a=upn y n b):a=b:=by
  have:=List.all_eq_true.1 (List.all_eq_true.1 (QaN Qkk hy) a (List.mem_range.2 ha)) b (List.mem_range.2 hb)
  rw [e,beq_self_eq_true,Bool.not_true,Bool.or_false,Bool.or_eq_true,beq_iff_eq,decide_eq_true_eq] at this
  omega
theorem Qeh {f : Nat→Nat}:∀ {l:List Nat},l.Nodup→(∀ a∈l,∀ b∈l,f a=f b→a=b)→(l.map f).Nodup
  | [],_,_=>List.nodup_nil
  | x::r,h,hf=>by
    rw [List.nodup_cons] at h
    rw [List.map_cons,List.nodup_cons]
    refine ⟨fun hm=>?_,Qeh h.2 fun a ha b hb=>hf a (List.mem_cons_of_mem _ ha) b (List.mem_cons_of_mem _ hb)⟩
    obtain ⟨z,hz,e⟩:=List.mem_map.1 hm
    exact h.1 (hf z (List.mem_cons_of_mem _ hz) x List.mem_cons_self e▸hz)
theorem QhK {y n:Int} (hy:Qax y n=true):((pthL y n).map (upN y n)).Nodup:=by
  refine Qeh ?_ fun a ha b hb e=>?_
  · unfold pthL; exact List.Pairwise.filter _ List.nodup_range
  · have h1:=Qda.1 ha
    have h2:=Qda.1 hb
    have e1:=Qb9 h1.2
    have e2:=Qb9 h2.2
    exact Qhg hy h1.1 h2.1 h1.2 (by omega)
theorem QhM {L m x:Nat} (hTr:Qaw ((L:Nat):Int)=true) (hm:m<L) (hx:x+1<2*L) (ho:x%2=1):x∈(pthL (2*((m:Nat):Int)) ((L:Nat):Int)).map (upN (2*((m:Nat):Int)) ((L:Nat):Int))↔abv ((x:Nat):Int) (2*((m:Nat):Int)) ((L:Nat):Int)=true:=by
  rw [Qi5 (QaY hTr hx) (by omega) (by omega),List.any_eq_true]
  constructor
  · intro h
    obtain ⟨k,hk,e⟩:=List.mem_map.1 h
    have h1:=Qda.1 hk
    have:=Qb9 h1.2
    exact ⟨k,List.mem_range.2 h1.1,by rw [Bool.and_eq_true,decide_eq_true_eq,beq_iff_eq]; exact ⟨h1.2,by omega⟩⟩
  · rintro ⟨k,hk,e⟩
    rw [Bool.and_eq_true,decide_eq_true_eq,beq_iff_eq] at e
    have:=Qb9 e.1
    exact List.mem_map.2 ⟨k,Qda.2 ⟨List.mem_range.1 hk,e.1⟩,by omega⟩
theorem Qjg {y n:Int} {x:Nat} (he:x%2=0):x∉(pthL y n).map (upN y n):=fun h=>by
  obtain ⟨k,hk,e⟩:=List.mem_map.1 h
  have h1:=Qda.1 hk
  have:=Qb9 h1.2
  have:=QcL h1.2
  omega
theorem QhL {y n:Int} {M:Nat} (hTr:Qaw n=true) (hl:((M:Nat):Int)+1=2*n) (z:Nat):upN y n z<M:=by have:=Qdx (x:=y) z hTr; omega
theorem Qi0 {y n:Int}:∀ (pre:List Nat) (us:List NdV) (x:Nat),x<us.length→x∈pre.map (upN y n)→ndi (blkL us y n pre) x=zn
  | [],us,x,hx,h=>by cases h
  | z::r,us,x,hx,h=>by
    show ndi (blkL (us.set (upN y n z) zn) y n r) x=zn
    by_cases hr:x∈r.map (upN y n)
    · exact Qi0 r _ x (by rw [List.length_set]; exact hx) hr
    · rw [List.map_cons,List.mem_cons] at h
      have e:x=upN y n z:=h.resolve_right hr
      rw [Qff y n x r _ fun w hw q=>hr (q▸List.mem_map.2 ⟨w,hw,rfl⟩),e,Qa8 _ (by omega),if_pos rfl]
theorem Qfd {L m x:Nat} {us:List NdV} (hTr:Qaw ((L:Nat):Int)=true) (hl:us.length+1=2*L) (hm:m<L) (hx:x<us.length) (ho:x%2=1):ndi (blkT us (2*((m:Nat):Int)) ((L:Nat):Int)) x=if abv ((x:Nat):Int) (2*((m:Nat):Int)) ((L:Nat):Int)=true then zn else ndi us x:=by
  have hi:=QhM hTr hm (show x+1<2*L by omega) ho
  split
  · rename_i h; exact Qi0 _ us x hx (hi.2 h)
  · rename_i h
    exact Qff _ _ x _ us fun z hz e=>h (hi.1 (e▸List.mem_map.2 ⟨z,hz,rfl⟩))
def insC (n : NdC) (i:Int):NdC:={ n with ms:=insA n.ms (posI n.ms i) i }
theorem QeZ {y n i:Int}:∀ (pre:List Nat) (us:List NdV),(∀ z∈pre,upN y n z<us.length)→(pre.map (upN y n)).Nodup→∀ x,(ndi (insL us y n i pre) x).n=if x∈pre.map (upN y n)∧(ndi us x).n.us=true then insC (ndi us x).n i else (ndi us x).n
  | [],us,_,_,x=>by rw [if_neg (by simp)]; rfl
  | z::r,us,hlt,hnd,x=>by
    rw [List.map_cons,List.nodup_cons] at hnd
    show (ndi (insL (Qcd y n i us z) y n i r) x).n=_
    rw [QeZ r (Qcd y n i us z) (fun w hw=>by rw [Qcz]; exact hlt w (List.mem_cons_of_mem _ hw)) hnd.2 x]
    have hz:=hlt z List.mem_cons_self
    by_cases e:x=upN y n z
    · subst e
      rw [if_neg fun q=>hnd.1 q.1]
      unfold Qcd
      cases hu:(ndi us (upN y n z)).n.us with
      | true=>rw [if_pos rfl,Qa8 _ hz,if_pos rfl,if_pos ⟨by rw [List.map_cons]; exact List.mem_cons_self,rfl⟩]; rfl
      | false=>rw [if_neg (by decide),if_neg (by simp)]
    · have e2:ndi (Qcd y n i us z) x=ndi us x:=by
        unfold Qcd
        split
        · rw [Qa8 _ hz,if_neg e]
        · rfl
      rw [e2,List.map_cons]
      have e3:(x∈r.map (upN y n)∧(ndi us x).n.us=true)↔(x∈upN y n z::r.map (upN y n)∧(ndi us x).n.us=true):=by rw [List.mem_cons]; simp [e]
      by_cases q:x∈r.map (upN y n)∧(ndi us x).n.us=true
      · rw [if_pos q,if_pos (e3.1 q)]
      · rw [if_neg q,if_neg fun p=>q (e3.2 p)]
theorem Qjr {L m:Nat} {us:List NdV} (hTr:Qaw ((L:Nat):Int)=true) (hl:us.length+1=2*L) (hm:m<L) (x:Nat):(ndi (insT us (2*((m:Nat):Int)) ((L:Nat):Int) ((m:Nat):Int)) x).n=if x∈(pthL (2*((m:Nat):Int)) ((L:Nat):Int)).map (upN (2*((m:Nat):Int)) ((L:Nat):Int))∧(ndi us x).n.us=true then insC (ndi us x).n ((m:Nat):Int) else (ndi us x).n :=
  QeZ _ us (fun z _=>QhL hTr (by omega) z) (QhK (Qel hTr (by omega) (by omega))) x
def Qdj (R : List NdV):Prop:=∃ L,Form R L∧anyU R (L/2)=true
theorem Qix {ts : List NdV} {L m:Nat} {nd:NdV} (f:Form ts L) (hr:anyU ts (L/2)=true) (hm:m<L) (hu:(ndi ts (2*m)).n.us=true) (hs:QaD nd.n=true) (hn:∀ j,j<L→j≠m→(ndi ts (2*j)).n.us=true→(ndi ts (2*j)).n.nm≠nd.n.nm):Qdj (blkT (ts.set (2*m) nd) (2*((m:Nat):Int)) ((L:Nat):Int)):=by
  have hlen:=f.len
  have hl:(ts.set (2*m) nd).length=ts.length:=List.length_set ..
  have hus:nd.n.us=true:=by unfold QaD at hs; simp only [Bool.and_eq_true] at hs; exact hs.1.1.1
  have ev:∀ j,j<L→ndi (blkT (ts.set (2*m) nd) (2*((m:Nat):Int)) ((L:Nat):Int)) (2*j)=if j=m then nd else ndi ts (2*j):=fun j hj=>by
    rw [Qc7,Qa8 nd (by omega)]
    by_cases e:j=m
    · rw [if_pos (by omega),if_pos e]
    · rw [if_neg (by omega),if_neg e]
  have od:∀ x,x<ts.length→x%2=1→ndi (blkT (ts.set (2*m) nd) (2*((m:Nat):Int)) ((L:Nat):Int)) x=if abv ((x:Nat):Int) (2*((m:Nat):Int)) ((L:Nat):Int)=true then zn else ndi ts x:=fun x hx ho=>by
    rw [Qfd f.tr (by omega) hm (by omega) ho,Qa8 nd (by omega),if_neg (show x≠2*m by omega)]
  have F:Form (blkT (ts.set (2*m) nd) (2*((m:Nat):Int)) ((L:Nat):Int)) L:=f.upd hm (by rw [Qb7,hl]) (fun _=>hs) (fun q=>by rw [hus] at q; cases q) (fun _=>hn) (by rw [ev m hm,if_pos rfl]) (fun x hx ho ha=>by rw [od x hx ho,if_pos ha]) (fun x hx ho ha=>by rw [od x hx ho,if_neg (by rw [ha]; decide)]) (fun j hj hjm=>by rw [ev j hj,if_neg hjm])
  refine ⟨_,F,?_⟩
  obtain ⟨j,h1,h2,h3⟩:=Qby.1 hr
  refine Qby.2 ⟨j,h1,by rw [Qb7,hl]; exact h2,?_⟩
  rw [ev j (by omega)]
  split
  · exact hus
  · exact h3
theorem Qg9 : ∀ (k:Nat) (rs:List NdV) (L:Nat),Form rs L→anyU rs 0=true→L≤2^k→Qdj (cutT k rs)
  | 0,rs,L,f,h,hk=>by
    have:=Qay f.tr
    obtain rfl:L=1:=by omega
    exact ⟨_,f,h⟩
  | k+1,rs,L,f,h,hk=>by
    have hL:=Qbv (Qct f.tr f.len)
    cases hu:anyU rs (L/2) with
    | true=>rw [QdN hL hu]; exact ⟨_,f,hu⟩
    | false =>
      have h2:2≤L∧L%2=0:=by
        have:=Qay f.tr
        rcases (show L=1∨(2≤L∧L%2=0) by omega) with e | e
        · subst e; rw [show 1/2=0 from rfl,h] at hu; cases hu
        · exact e
      obtain ⟨j,rfl⟩:∃ j,L=2*j:=⟨L/2,by omega⟩
      have hlen:=f.len
      rw [Qdh hL (Nat.succ_pos _) hu]
      show Qdj (cutT k (rs.take (rs.length/2)))
      have ht:=Qdi f.len h2.2 h hu
      rw [show rs.length/2=2*j-1 by omega] at ht ⊢
      exact Qg9 k _ j (f.half (by omega)) ht (by rw [Nat.pow_succ] at hk; omega)
theorem Qlc {ts : List NdV} {L m j:Nat} (f:Form ts L) (hm:m<L) (hj:j<L) (hjm:j≠m) (huj:(ndi ts (2*j)).n.us=true):Qdj (remT ts m L):=by
  have hlen:=f.len
  have hl:(ts.set (2*m) zn).length=ts.length:=List.length_set ..
  have ev:∀ j,j<L→ndi (blkT (ts.set (2*m) zn) (2*((m:Nat):Int)) ((L:Nat):Int)) (2*j)=if j=m then zn else ndi ts (2*j):=fun j hj=>by
    rw [Qc7,Qa8 zn (by omega)]
    by_cases e:j=m
    · rw [if_pos (by omega),if_pos e]
    · rw [if_neg (by omega),if_neg e]
  have od:∀ x,x<ts.length→x%2=1→ndi (blkT (ts.set (2*m) zn) (2*((m:Nat):Int)) ((L:Nat):Int)) x=if abv ((x:Nat):Int) (2*((m:Nat):Int)) ((L:Nat):Int)=true then zn else ndi ts x:=fun x hx ho=>by
    rw [Qfd f.tr (by omega) hm (by omega) ho,Qa8 zn (by omega),if_neg (show x≠2*m by omega)]
  have F:Form (blkT (ts.set (2*m) zn) (2*((m:Nat):Int)) ((L:Nat):Int)) L:=f.upd (nd:=zn.n) hm (by rw [Qb7,hl]) (fun q=>by cases q) (fun _=>rfl) (fun q=>by cases q) (by rw [ev m hm,if_pos rfl]) (fun x hx ho ha=>by rw [od x hx ho,if_pos ha]) (fun x hx ho ha=>by rw [od x hx ho,if_neg (by rw [ha]; decide)]) (fun j hj hjm=>by rw [ev j hj,if_neg hjm])
  have hk:L≤2^ts.length:=qT (Nat.le_of_lt Nat.lt_two_pow_self) (Nat.pow_le_pow_right (by decide) (by omega))
  exact Qg9 ts.length _ L F (Qby.2 ⟨j,Nat.zero_le _,by rw [Qb7,hl]; omega,by rw [ev j hj,if_neg hjm]; exact huj⟩) hk
theorem QdM {us : List NdV} {L m:Nat} {nd:NdV} (f:Form us L) (hm:m<L) (hf:(ndi us (2*m)).n.us=false) (hs:QaD nd.n=true) (hn:∀ j,j<L→(ndi us (2*j)).n.us=true→(ndi us (2*j)).n.nm≠nd.n.nm):Form (insT (us.set (2*m) nd) (2*((m:Nat):Int)) ((L:Nat):Int) ((m:Nat):Int)) L∧∀ j,j<L→(ndi (insT (us.set (2*m) nd) (2*((m:Nat):Int)) ((L:Nat):Int) ((m:Nat):Int)) (2*j)).n=if j=m then nd.n else (ndi us (2*j)).n:=by
  have hlen:=f.len
  have hl:(us.set (2*m) nd).length=us.length:=List.length_set ..
  have at_:=fun x=>Qjr (us:=us.set (2*m) nd) f.tr (by omega) hm x
  have ev:∀ j,j<L→(ndi (insT (us.set (2*m) nd) (2*((m:Nat):Int)) ((L:Nat):Int) ((m:Nat):Int)) (2*j)).n=if j=m then nd.n else (ndi us (2*j)).n:=fun j hj=>by
    rw [at_,if_neg (fun q=>Qjg (by omega) q.1),Qa8 nd (by omega)]
    by_cases e:j=m
    · rw [if_pos (by omega),if_pos e]
    · rw [if_neg (by omega),if_neg e]
  have od:∀ x,x<us.length→x%2=1→(ndi (insT (us.set (2*m) nd) (2*((m:Nat):Int)) ((L:Nat):Int) ((m:Nat):Int)) x).n=if abv ((x:Nat):Int) (2*((m:Nat):Int)) ((L:Nat):Int)=true∧(ndi us x).n.us=true then insC (ndi us x).n ((m:Nat):Int) else (ndi us x).n:=fun x hx ho=>by
    rw [at_,Qa8 nd (by omega),if_neg (show x≠2*m by omega)]
    have hi:=QhM f.tr hm (show x+1<2*L by omega) ho
    by_cases q:abv ((x:Nat):Int) (2*((m:Nat):Int)) ((L:Nat):Int)=true∧(ndi us x).n.us=true
    · rw [if_pos q,if_pos ⟨hi.2 q.1,q.2⟩]
    · rw [if_neg q,if_neg fun p=>q ⟨hi.1 p.1,p.2⟩]
  refine ⟨f.add (nd:=nd.n) hm hf ?_ hs hn (by rw [ev m hm,if_pos rfl]) (fun x hx ho hu ha=>by rw [od x hx ho,if_pos ⟨ha,hu⟩]; rfl) (fun x hx ho q=>by
    rw [od x hx ho,if_neg]
    rintro ⟨q1,q2⟩
    rcases q with q | q
    · rw [q] at q2; cases q2
    · rw [q] at q1; cases q1) (fun j hj hjm=>by rw [ev j hj,if_neg hjm]),ev⟩
  unfold insT
  rw [Qbx,hl]
theorem Qj4 {ts : List NdV} {L m:Nat} {nd:NdV} (f:Form ts L) (hr:anyU ts (L/2)=true) (hm:m<L) (hf:(ndi ts (2*m)).n.us=false) (hs:QaD nd.n=true) (hn:∀ j,j<L→(ndi ts (2*j)).n.us=true→(ndi ts (2*j)).n.nm≠nd.n.nm):Qdj (addT ts m nd L):=by
  have hlen:=f.len
  unfold addT
  rw [if_pos (by omega)]
  obtain ⟨F,ev⟩:=QdM f hm hf hs hn
  refine ⟨_,F,?_⟩
  obtain ⟨j,h1,h2,h3⟩:=Qby.1 hr
  have hl:(insT (ts.set (2*m) nd) (2*((m:Nat):Int)) ((L:Nat):Int) ((m:Nat):Int)).length=ts.length:=by unfold insT; rw [Qbx,List.length_set]
  refine Qby.2 ⟨j,h1,by rw [hl]; exact h2,?_⟩
  rw [ev j (by omega),if_neg fun e=>by rw [e,hf] at h3; cases h3]
  exact h3
theorem Qj3 {ts : List NdV} {L:Nat} {nd:NdV} (f:Form ts L) (h16:L≤16) (hs:QaD nd.n=true) (hn:∀ j,j<L→(ndi ts (2*j)).n.us=true→(ndi ts (2*j)).n.nm≠nd.n.nm):Qdj (addT ts L nd (2*L)):=by
  have hlen:=f.len
  have h1:1≤L:=by have:=Qay f.tr; omega
  unfold addT
  rw [if_neg (by omega)]
  have D:=f.dbl h16
  have hl0:(ts++List.replicate (ts.length+1) zn).length=2*ts.length+1:=by rw [List.length_append,qZ]; omega
  have az:∀ x,ts.length≤x→x<2*ts.length+1→ndi (ts++List.replicate (ts.length+1) zn) x=zn:=fun x hx hx2=>by rw [Qbp,if_neg (by omega),QbF zn (by omega)]
  have hf:(ndi (ts++List.replicate (ts.length+1) zn) (2*L)).n.us=false:=by rw [az _ (by omega) (by omega)]; rfl
  obtain ⟨F,ev⟩:=QdM (nd:=nd) D (show L<2*L by omega) hf hs (fun j hj hu=>by
    rcases Nat.lt_or_ge (2*j) ts.length with q | q
    · rw [Qbp,if_pos q] at hu ⊢
      exact hn j (by omega) hu
    · rw [az _ q (by omega)] at hu; cases hu)
  refine ⟨_,F,?_⟩
  have hl:(insT ((ts++List.replicate (ts.length+1) zn).set (2*L) nd) (2*((L:Nat):Int)) ((2*L:Nat):Int) ((L:Nat):Int)).length=2*ts.length+1:=by unfold insT; rw [Qbx,List.length_set,hl0]
  refine Qby.2 ⟨L,by omega,by rw [hl]; omega,?_⟩
  rw [ev L (by omega),if_pos rfl]
  unfold QaD at hs
  simp only [Bool.and_eq_true] at hs
  exact hs.1.1.1
end Go.Proofs.YtcmaolmofgmkhaaDoor.Te
end
section
namespace Go.Proofs.YtcmaolmofgmkhaaDoor.Te
open Go Go.RowKit
open Rely Auto Own Seat Sha
def UpdR (ts : List NdV) (nd:NdV) (m L:Nat) (w:World) (v:Value) (W:World):Prop:=∃ (us:List NdV) (n5:NdV),AsC us ts∧n5.n=nd.n∧(blkT (us.set (2*m) n5) (2*((m:Nat):Int)) ((L:Nat):Int)).length=ts.length∧∃ (u e:Value),v=.tuple #[u,.nilIface]∧OwT w.heap.size (blkT (us.set (2*m) n5) (2*((m:Nat):Int)) ((L:Nat):Int)) u W
set_option maxRecDepth 100000 in
theorem QiE (ts : List NdV) (a_t:Option Addr) (c_t B1:Nat) (w:World) (ht:TrAt B1 w a_t ts) (htl:ts.length≤100000) (hmt:∀ i,i<ts.length→(ndi ts i).n.ms.length≤1000) (hT:TabAt w) (nd:NdV) (hok:NdOk nd.n) (hc:chkT ts=false) (n:Int):Calls Tryd.prog 27 #[.slice a_t ts.length c_t,.int .i64 n,.agg (cat [#[.bool nd.n.us],#[.int .i64 nd.n.nm],ints .u8 (nd.n.key),ints .u8 (nd.n.sg),ints .u8 (nd.n.pa),#[.slice nd.a nd.n.ms.length nd.c]])] w (Ret w (.tuple #[.slice none 0 0,.iface 30 (.int .i64 3)])):=by
  refine enter 48 [(0,.slice a_t ts.length c_t),(1,.int .i64 n),(2,.agg (cat [#[.bool nd.n.us],#[.int .i64 nd.n.nm],ints .u8 (nd.n.key),ints .u8 (nd.n.sg),ints .u8 (nd.n.pa),#[.slice nd.a nd.n.ms.length nd.c]]))] Tryd.func27 rfl rfl kj rfl ?_
  refine wp_seq_k fun K1 hK1=>?_
  refine Qab ?_
  refine Qan (cat [#[.bool nd.n.us],#[.int .i64 nd.n.nm],ints .u8 (nd.n.key),ints .u8 (nd.n.sg),ints .u8 (nd.n.pa),#[.slice nd.a nd.n.ms.length nd.c]]) 41 5 rfl kj kj fun g2 W1 l2 e1 r2_1=>?_
  have x1:Ext w W1:=Ext.tr (Rely.Ext.refl w) e1
  have b2:w.heap.size≤g2:=qT (Rely.Ext.refl w).size l2
  refine Qaa (.slice none 0 0) 6 rfl kj kj ?_
  refine Qaa (.nilIface) 7 rfl kj kj ?_
  refine Qae ?_
  refine hK1 _ _ ?_
  refine wp_seq_k fun K3 hK3=>?_
  refine wp_seq_k fun K4 hK4=>?_
  refine Qab ?_
  refine Qaa (.slice a_t ts.length c_t) 10 rfl kj kj ?_
  refine Qaj (.iface 30 (.int .i64 3)) 11 #[.slice a_t ts.length c_t] 11 rfl kj kj (Qiz ts a_t c_t _ _ (TrAt.ext ht x1) htl (fun i hi=>qT (hmt i hi) (by decide)) (TabAt.ext hT x1) hc) fun W2 e2=>?_
  have x2:Ext w W2:=Ext.tr x1 e2
  refine Qaa (.bool true) 12 rfl kj kj ?_
  refine Qaa (.bool true) 13 rfl kj kj ?_
  refine Qad 14 rfl kj ?_
  refine Qad 15 rfl kj ?_
  refine Qad 16 rfl kj ?_
  refine Qaa (.bool true) 17 rfl kj kj ?_
  refine Qae ?_
  refine hK4 _ _ ?_
  refine cond_true kj ?_
  refine wp_seq_k fun K5 hK5=>?_
  refine Qab ?_
  refine Qaa (.iface 30 (.int .i64 3)) 18 rfl kj kj ?_
  refine Qaa (.slice none 0 0) 6 rfl kj kj ?_
  refine Qaa (.iface 30 (.int .i64 3)) 7 rfl kj kj ?_
  refine Qae ?_
  refine hK5 _ _ ?_
  refine wp_ret ?_
  repeat (first | with_reducible refine goR1 ?_ | with_reducible refine goR2 ?_)
  exact (show bodyPost _ _ _ .ret _ _ from ret2 (.slice none 0 0) (.iface 30 (.int .i64 3)) rfl (Qam kj) (Qam kj) ⟨rfl,x2⟩)
set_option maxRecDepth 100000 in
theorem QiC (ts : List NdV) (a_t:Option Addr) (c_t B1:Nat) (w:World) (ht:TrAt B1 w a_t ts) (htl:ts.length≤100000) (hmt:∀ i,i<ts.length→(ndi ts i).n.ms.length≤1000) (hT:TabAt w) (nd:NdV) (hok:NdOk nd.n) (hc:chkT ts=true) (hs:QaD nd.n=false) (n:Int):Calls Tryd.prog 27 #[.slice a_t ts.length c_t,.int .i64 n,.agg (cat [#[.bool nd.n.us],#[.int .i64 nd.n.nm],ints .u8 (nd.n.key),ints .u8 (nd.n.sg),ints .u8 (nd.n.pa),#[.slice nd.a nd.n.ms.length nd.c]])] w (Ret w (.tuple #[.slice none 0 0,.iface 30 (.int .i64 3)])):=by
  refine enter 48 [(0,.slice a_t ts.length c_t),(1,.int .i64 n),(2,.agg (cat [#[.bool nd.n.us],#[.int .i64 nd.n.nm],ints .u8 (nd.n.key),ints .u8 (nd.n.sg),ints .u8 (nd.n.pa),#[.slice nd.a nd.n.ms.length nd.c]]))] Tryd.func27 rfl rfl kj rfl ?_
  refine wp_seq_k fun K1 hK1=>?_
  refine Qab ?_
  refine Qan (cat [#[.bool nd.n.us],#[.int .i64 nd.n.nm],ints .u8 (nd.n.key),ints .u8 (nd.n.sg),ints .u8 (nd.n.pa),#[.slice nd.a nd.n.ms.length nd.c]]) 41 5 rfl kj kj fun g2 W1 l2 e1 r2_1=>?_
  have x1:Ext w W1:=Ext.tr (Rely.Ext.refl w) e1
  have b2:w.heap.size≤g2:=qT (Rely.Ext.refl w).size l2
  refine Qaa (.slice none 0 0) 6 rfl kj kj ?_
  refine Qaa (.nilIface) 7 rfl kj kj ?_
  refine Qae ?_
  refine hK1 _ _ ?_
  refine wp_seq_k fun K3 hK3=>?_
  refine wp_seq_k fun K4 hK4=>?_
  refine Qab ?_
  refine Qaa (.slice a_t ts.length c_t) 10 rfl kj kj ?_
  refine Qaj (.nilIface) 11 #[.slice a_t ts.length c_t] 11 rfl kj kj (Qb6 ts a_t c_t _ _ (TrAt.ext ht x1) htl (fun i hi=>qT (hmt i hi) (by decide)) (TabAt.ext hT x1) hc) fun W2 e2=>?_
  have x2:Ext w W2:=Ext.tr x1 e2
  refine Qaa (.bool false) 12 rfl kj kj ?_
  refine Qaa (.bool false) 13 rfl kj kj ?_
  have r2_2:=(Qah r2_1 e2)
  refine Qaa (.agg (cat [#[.bool nd.n.us],#[.int .i64 nd.n.nm],ints .u8 (nd.n.key),ints .u8 (nd.n.sg),ints .u8 (nd.n.pa),#[.slice nd.a nd.n.ms.length nd.c]])) 14 rfl kj (Qau 41 _ g2 41 _ _ r2_2 rfl kj kj (isz (n:=99) kj (by rw [Qac,Qac,Qac,Qac,Qac,Qac]; simp only [qS,cat,((Qaf _ _).trans hok.gl),((Qaf _ _).trans hok.kl),((Qaf _ _).trans hok.pl)]; rfl))) ?_
  refine Qaj (.bool false) 50 #[.agg (cat [#[.bool nd.n.us],#[.int .i64 nd.n.nm],ints .u8 (nd.n.key),ints .u8 (nd.n.sg),ints .u8 (nd.n.pa),#[.slice nd.a nd.n.ms.length nd.c]])] 15 rfl kj kj ((hs▸Qce nd hok _)) fun W3 e3=>?_
  have x3:Ext w W3:=Ext.tr x2 e3
  refine Qaa (.bool true) 16 rfl kj kj ?_
  refine Qaa (.bool true) 17 rfl kj kj ?_
  refine Qae ?_
  refine hK4 _ _ ?_
  refine cond_true kj ?_
  refine wp_seq_k fun K5 hK5=>?_
  refine Qab ?_
  refine Qaa (.iface 30 (.int .i64 3)) 18 rfl kj kj ?_
  refine Qaa (.slice none 0 0) 6 rfl kj kj ?_
  refine Qaa (.iface 30 (.int .i64 3)) 7 rfl kj kj ?_
  refine Qae ?_
  refine hK5 _ _ ?_
  refine wp_ret ?_
  repeat (first | with_reducible refine goR1 ?_ | with_reducible refine goR2 ?_)
  exact (show bodyPost _ _ _ .ret _ _ from ret2 (.slice none 0 0) (.iface 30 (.int .i64 3)) rfl (Qam kj) (Qam kj) ⟨rfl,x3⟩)
set_option maxRecDepth 100000 in
theorem QiI (ts : List NdV) (a_t:Option Addr) (c_t B1:Nat) (w:World) (ht:TrAt B1 w a_t ts) (htl:ts.length≤100000) (hmt:∀ i,i<ts.length→(ndi ts i).n.ms.length≤1000) (hT:TabAt w) (nd:NdV) (hok:NdOk nd.n) (hc:chkT ts=true) (hs:QaD nd.n=true) (L:Nat) (hL:leaves ((ts.length:Nat):Int)=((L:Nat):Int)) (hL3:L≤32) (hlen:ts.length+1=2*L) (hTr:Qaw ((L:Nat):Int)=true) (n:Int) (h0:n<0):Calls Tryd.prog 27 #[.slice a_t ts.length c_t,.int .i64 n,.agg (cat [#[.bool nd.n.us],#[.int .i64 nd.n.nm],ints .u8 (nd.n.key),ints .u8 (nd.n.sg),ints .u8 (nd.n.pa),#[.slice nd.a nd.n.ms.length nd.c]])] w (Ret w (.tuple #[.slice none 0 0,.iface 30 (.int .i64 9)])):=by
  refine enter 48 [(0,.slice a_t ts.length c_t),(1,.int .i64 n),(2,.agg (cat [#[.bool nd.n.us],#[.int .i64 nd.n.nm],ints .u8 (nd.n.key),ints .u8 (nd.n.sg),ints .u8 (nd.n.pa),#[.slice nd.a nd.n.ms.length nd.c]]))] Tryd.func27 rfl rfl kj rfl ?_
  refine wp_seq_k fun K1 hK1=>?_
  refine Qab ?_
  refine Qan (cat [#[.bool nd.n.us],#[.int .i64 nd.n.nm],ints .u8 (nd.n.key),ints .u8 (nd.n.sg),ints .u8 (nd.n.pa),#[.slice nd.a nd.n.ms.length nd.c]]) 41 5 rfl kj kj fun g2 W1 l2 e1 r2_1=>?_
  have x1:Ext w W1:=Ext.tr (Rely.Ext.refl w) e1
  have b2:w.heap.size≤g2:=qT (Rely.Ext.refl w).size l2
  refine Qaa (.slice none 0 0) 6 rfl kj kj ?_
  refine Qaa (.nilIface) 7 rfl kj kj ?_
  refine Qae ?_
  refine hK1 _ _ ?_
  refine wp_seq_k fun K3 hK3=>?_
  refine wp_seq_k fun K4 hK4=>?_
  refine Qab ?_
  refine Qaa (.slice a_t ts.length c_t) 10 rfl kj kj ?_
  refine Qaj (.nilIface) 11 #[.slice a_t ts.length c_t] 11 rfl kj kj (Qb6 ts a_t c_t _ _ (TrAt.ext ht x1) htl (fun i hi=>qT (hmt i hi) (by decide)) (TabAt.ext hT x1) hc) fun W2 e2=>?_
  have x2:Ext w W2:=Ext.tr x1 e2
  refine Qaa (.bool false) 12 rfl kj kj ?_
  refine Qaa (.bool false) 13 rfl kj kj ?_
  have r2_2:=(Qah r2_1 e2)
  refine Qaa (.agg (cat [#[.bool nd.n.us],#[.int .i64 nd.n.nm],ints .u8 (nd.n.key),ints .u8 (nd.n.sg),ints .u8 (nd.n.pa),#[.slice nd.a nd.n.ms.length nd.c]])) 14 rfl kj (Qau 41 _ g2 41 _ _ r2_2 rfl kj kj (isz (n:=99) kj (by rw [Qac,Qac,Qac,Qac,Qac,Qac]; simp only [qS,cat,((Qaf _ _).trans hok.gl),((Qaf _ _).trans hok.kl),((Qaf _ _).trans hok.pl)]; rfl))) ?_
  refine Qaj (.bool true) 50 #[.agg (cat [#[.bool nd.n.us],#[.int .i64 nd.n.nm],ints .u8 (nd.n.key),ints .u8 (nd.n.sg),ints .u8 (nd.n.pa),#[.slice nd.a nd.n.ms.length nd.c]])] 15 rfl kj kj ((hs▸Qce nd hok _)) fun W3 e3=>?_
  have x3:Ext w W3:=Ext.tr x2 e3
  refine Qaa (.bool false) 16 rfl kj kj ?_
  refine Qaa (.bool false) 17 rfl kj kj ?_
  refine Qae ?_
  refine hK4 _ _ ?_
  refine cond_false kj ?_
  refine wp_skip ?_
  refine hK3 _ _ ?_
  refine wp_seq_k fun K5 hK5=>?_
  refine wp_seq_k fun K6 hK6=>?_
  refine Qab ?_
  refine Qaa (.slice a_t ts.length c_t) 19 rfl kj kj ?_
  refine Qaa (.int .i64 n) 20 rfl kj kj ?_
  refine Qaj (.bool false) 55 #[.slice a_t ts.length c_t,.int .i64 n] 21 rfl kj kj (Qhd ts a_t c_t _ _ (TrAt.ext ht x3) htl L hL (by omega) n h0) fun W4 e4=>?_
  have x4:Ext w W4:=Ext.tr x3 e4
  refine Qaa (.bool true) 22 rfl kj kj ?_
  refine Qae ?_
  refine hK6 _ _ ?_
  refine cond_true kj ?_
  refine wp_seq_k fun K7 hK7=>?_
  refine Qab ?_
  refine Qaa (.iface 30 (.int .i64 9)) 23 rfl kj kj ?_
  refine Qaa (.slice none 0 0) 6 rfl kj kj ?_
  refine Qaa (.iface 30 (.int .i64 9)) 7 rfl kj kj ?_
  refine Qae ?_
  refine hK7 _ _ ?_
  refine wp_ret ?_
  repeat (first | with_reducible refine goR1 ?_ | with_reducible refine goR2 ?_)
  exact (show bodyPost _ _ _ .ret _ _ from ret2 (.slice none 0 0) (.iface 30 (.int .i64 9)) rfl (Qam kj) (Qam kj) ⟨rfl,x4⟩)
set_option maxRecDepth 100000 in
theorem QiH (ts : List NdV) (a_t:Option Addr) (c_t B1:Nat) (w:World) (ht:TrAt B1 w a_t ts) (htl:ts.length≤100000) (hmt:∀ i,i<ts.length→(ndi ts i).n.ms.length≤1000) (hT:TabAt w) (nd:NdV) (hok:NdOk nd.n) (hc:chkT ts=true) (hs:QaD nd.n=true) (L:Nat) (hL:leaves ((ts.length:Nat):Int)=((L:Nat):Int)) (hL3:L≤32) (hlen:ts.length+1=2*L) (hTr:Qaw ((L:Nat):Int)=true) (n:Int) (h0:0≤n) (h1:((L:Nat):Int)≤n):Calls Tryd.prog 27 #[.slice a_t ts.length c_t,.int .i64 n,.agg (cat [#[.bool nd.n.us],#[.int .i64 nd.n.nm],ints .u8 (nd.n.key),ints .u8 (nd.n.sg),ints .u8 (nd.n.pa),#[.slice nd.a nd.n.ms.length nd.c]])] w (Ret w (.tuple #[.slice none 0 0,.iface 30 (.int .i64 9)])):=by
  refine enter 48 [(0,.slice a_t ts.length c_t),(1,.int .i64 n),(2,.agg (cat [#[.bool nd.n.us],#[.int .i64 nd.n.nm],ints .u8 (nd.n.key),ints .u8 (nd.n.sg),ints .u8 (nd.n.pa),#[.slice nd.a nd.n.ms.length nd.c]]))] Tryd.func27 rfl rfl kj rfl ?_
  refine wp_seq_k fun K1 hK1=>?_
  refine Qab ?_
  refine Qan (cat [#[.bool nd.n.us],#[.int .i64 nd.n.nm],ints .u8 (nd.n.key),ints .u8 (nd.n.sg),ints .u8 (nd.n.pa),#[.slice nd.a nd.n.ms.length nd.c]]) 41 5 rfl kj kj fun g2 W1 l2 e1 r2_1=>?_
  have x1:Ext w W1:=Ext.tr (Rely.Ext.refl w) e1
  have b2:w.heap.size≤g2:=qT (Rely.Ext.refl w).size l2
  refine Qaa (.slice none 0 0) 6 rfl kj kj ?_
  refine Qaa (.nilIface) 7 rfl kj kj ?_
  refine Qae ?_
  refine hK1 _ _ ?_
  refine wp_seq_k fun K3 hK3=>?_
  refine wp_seq_k fun K4 hK4=>?_
  refine Qab ?_
  refine Qaa (.slice a_t ts.length c_t) 10 rfl kj kj ?_
  refine Qaj (.nilIface) 11 #[.slice a_t ts.length c_t] 11 rfl kj kj (Qb6 ts a_t c_t _ _ (TrAt.ext ht x1) htl (fun i hi=>qT (hmt i hi) (by decide)) (TabAt.ext hT x1) hc) fun W2 e2=>?_
  have x2:Ext w W2:=Ext.tr x1 e2
  refine Qaa (.bool false) 12 rfl kj kj ?_
  refine Qaa (.bool false) 13 rfl kj kj ?_
  have r2_2:=(Qah r2_1 e2)
  refine Qaa (.agg (cat [#[.bool nd.n.us],#[.int .i64 nd.n.nm],ints .u8 (nd.n.key),ints .u8 (nd.n.sg),ints .u8 (nd.n.pa),#[.slice nd.a nd.n.ms.length nd.c]])) 14 rfl kj (Qau 41 _ g2 41 _ _ r2_2 rfl kj kj (isz (n:=99) kj (by rw [Qac,Qac,Qac,Qac,Qac,Qac]; simp only [qS,cat,((Qaf _ _).trans hok.gl),((Qaf _ _).trans hok.kl),((Qaf _ _).trans hok.pl)]; rfl))) ?_
  refine Qaj (.bool true) 50 #[.agg (cat [#[.bool nd.n.us],#[.int .i64 nd.n.nm],ints .u8 (nd.n.key),ints .u8 (nd.n.sg),ints .u8 (nd.n.pa),#[.slice nd.a nd.n.ms.length nd.c]])] 15 rfl kj kj ((hs▸Qce nd hok _)) fun W3 e3=>?_
  have x3:Ext w W3:=Ext.tr x2 e3
  refine Qaa (.bool false) 16 rfl kj kj ?_
  refine Qaa (.bool false) 17 rfl kj kj ?_
  refine Qae ?_
  refine hK4 _ _ ?_
  refine cond_false kj ?_
  refine wp_skip ?_
  refine hK3 _ _ ?_
  refine wp_seq_k fun K5 hK5=>?_
  refine wp_seq_k fun K6 hK6=>?_
  refine Qab ?_
  refine Qaa (.slice a_t ts.length c_t) 19 rfl kj kj ?_
  refine Qaa (.int .i64 n) 20 rfl kj kj ?_
  refine Qaj (.bool false) 55 #[.slice a_t ts.length c_t,.int .i64 n] 21 rfl kj kj (Qhc ts a_t c_t _ _ (TrAt.ext ht x3) htl L hL (by omega) n h0 h1) fun W4 e4=>?_
  have x4:Ext w W4:=Ext.tr x3 e4
  refine Qaa (.bool true) 22 rfl kj kj ?_
  refine Qae ?_
  refine hK6 _ _ ?_
  refine cond_true kj ?_
  refine wp_seq_k fun K7 hK7=>?_
  refine Qab ?_
  refine Qaa (.iface 30 (.int .i64 9)) 23 rfl kj kj ?_
  refine Qaa (.slice none 0 0) 6 rfl kj kj ?_
  refine Qaa (.iface 30 (.int .i64 9)) 7 rfl kj kj ?_
  refine Qae ?_
  refine hK7 _ _ ?_
  refine wp_ret ?_
  repeat (first | with_reducible refine goR1 ?_ | with_reducible refine goR2 ?_)
  exact (show bodyPost _ _ _ .ret _ _ from ret2 (.slice none 0 0) (.iface 30 (.int .i64 9)) rfl (Qam kj) (Qam kj) ⟨rfl,x4⟩)
set_option maxRecDepth 100000 in
theorem QiG (ts : List NdV) (a_t:Option Addr) (c_t B1:Nat) (w:World) (ht:TrAt B1 w a_t ts) (htl:ts.length≤100000) (hmt:∀ i,i<ts.length→(ndi ts i).n.ms.length≤1000) (hT:TabAt w) (nd:NdV) (hok:NdOk nd.n) (hc:chkT ts=true) (hs:QaD nd.n=true) (L:Nat) (hL:leaves ((ts.length:Nat):Int)=((L:Nat):Int)) (hL3:L≤32) (hlen:ts.length+1=2*L) (hTr:Qaw ((L:Nat):Int)=true) (m:Nat) (hm:m<L) (hus:(ndi ts (2*m)).n.us=false):Calls Tryd.prog 27 #[.slice a_t ts.length c_t,.int .i64 ((m:Nat):Int),.agg (cat [#[.bool nd.n.us],#[.int .i64 nd.n.nm],ints .u8 (nd.n.key),ints .u8 (nd.n.sg),ints .u8 (nd.n.pa),#[.slice nd.a nd.n.ms.length nd.c]])] w (Ret w (.tuple #[.slice none 0 0,.iface 30 (.int .i64 9)])):=by
  refine enter 48 [(0,.slice a_t ts.length c_t),(1,.int .i64 ((m:Nat):Int)),(2,.agg (cat [#[.bool nd.n.us],#[.int .i64 nd.n.nm],ints .u8 (nd.n.key),ints .u8 (nd.n.sg),ints .u8 (nd.n.pa),#[.slice nd.a nd.n.ms.length nd.c]]))] Tryd.func27 rfl rfl kj rfl ?_
  refine wp_seq_k fun K1 hK1=>?_
  refine Qab ?_
  refine Qan (cat [#[.bool nd.n.us],#[.int .i64 nd.n.nm],ints .u8 (nd.n.key),ints .u8 (nd.n.sg),ints .u8 (nd.n.pa),#[.slice nd.a nd.n.ms.length nd.c]]) 41 5 rfl kj kj fun g2 W1 l2 e1 r2_1=>?_
  have x1:Ext w W1:=Ext.tr (Rely.Ext.refl w) e1
  have b2:w.heap.size≤g2:=qT (Rely.Ext.refl w).size l2
  refine Qaa (.slice none 0 0) 6 rfl kj kj ?_
  refine Qaa (.nilIface) 7 rfl kj kj ?_
  refine Qae ?_
  refine hK1 _ _ ?_
  refine wp_seq_k fun K3 hK3=>?_
  refine wp_seq_k fun K4 hK4=>?_
  refine Qab ?_
  refine Qaa (.slice a_t ts.length c_t) 10 rfl kj kj ?_
  refine Qaj (.nilIface) 11 #[.slice a_t ts.length c_t] 11 rfl kj kj (Qb6 ts a_t c_t _ _ (TrAt.ext ht x1) htl (fun i hi=>qT (hmt i hi) (by decide)) (TabAt.ext hT x1) hc) fun W2 e2=>?_
  have x2:Ext w W2:=Ext.tr x1 e2
  refine Qaa (.bool false) 12 rfl kj kj ?_
  refine Qaa (.bool false) 13 rfl kj kj ?_
  have r2_2:=(Qah r2_1 e2)
  refine Qaa (.agg (cat [#[.bool nd.n.us],#[.int .i64 nd.n.nm],ints .u8 (nd.n.key),ints .u8 (nd.n.sg),ints .u8 (nd.n.pa),#[.slice nd.a nd.n.ms.length nd.c]])) 14 rfl kj (Qau 41 _ g2 41 _ _ r2_2 rfl kj kj (isz (n:=99) kj (by rw [Qac,Qac,Qac,Qac,Qac,Qac]; simp only [qS,cat,((Qaf _ _).trans hok.gl),((Qaf _ _).trans hok.kl),((Qaf _ _).trans hok.pl)]; rfl))) ?_
  refine Qaj (.bool true) 50 #[.agg (cat [#[.bool nd.n.us],#[.int .i64 nd.n.nm],ints .u8 (nd.n.key),ints .u8 (nd.n.sg),ints .u8 (nd.n.pa),#[.slice nd.a nd.n.ms.length nd.c]])] 15 rfl kj kj ((hs▸Qce nd hok _)) fun W3 e3=>?_
  have x3:Ext w W3:=Ext.tr x2 e3
  refine Qaa (.bool false) 16 rfl kj kj ?_
  refine Qaa (.bool false) 17 rfl kj kj ?_
  refine Qae ?_
  refine hK4 _ _ ?_
  refine cond_false kj ?_
  refine wp_skip ?_
  refine hK3 _ _ ?_
  refine wp_seq_k fun K5 hK5=>?_
  refine wp_seq_k fun K6 hK6=>?_
  refine Qab ?_
  refine Qaa (.slice a_t ts.length c_t) 19 rfl kj kj ?_
  refine Qaa (.int .i64 ((m:Nat):Int)) 20 rfl kj kj ?_
  refine Qaj (.bool false) 55 #[.slice a_t ts.length c_t,.int .i64 ((m:Nat):Int)] 21 rfl kj kj ((hus▸QcK ts a_t c_t _ _ (TrAt.ext ht x3) htl L hL (by omega) m hm)) fun W4 e4=>?_
  have x4:Ext w W4:=Ext.tr x3 e4
  refine Qaa (.bool true) 22 rfl kj kj ?_
  refine Qae ?_
  refine hK6 _ _ ?_
  refine cond_true kj ?_
  refine wp_seq_k fun K7 hK7=>?_
  refine Qab ?_
  refine Qaa (.iface 30 (.int .i64 9)) 23 rfl kj kj ?_
  refine Qaa (.slice none 0 0) 6 rfl kj kj ?_
  refine Qaa (.iface 30 (.int .i64 9)) 7 rfl kj kj ?_
  refine Qae ?_
  refine hK7 _ _ ?_
  refine wp_ret ?_
  repeat (first | with_reducible refine goR1 ?_ | with_reducible refine goR2 ?_)
  exact (show bodyPost _ _ _ .ret _ _ from ret2 (.slice none 0 0) (.iface 30 (.int .i64 9)) rfl (Qam kj) (Qam kj) ⟨rfl,x4⟩)
set_option maxRecDepth 100000 in
theorem QiD (ts : List NdV) (a_t:Option Addr) (c_t B1:Nat) (w:World) (ht:TrAt B1 w a_t ts) (htl:ts.length≤100000) (hmt:∀ i,i<ts.length→(ndi ts i).n.ms.length≤1000) (hT:TabAt w) (nd:NdV) (hok:NdOk nd.n) (hc:chkT ts=true) (hs:QaD nd.n=true) (L:Nat) (hL:leaves ((ts.length:Nat):Int)=((L:Nat):Int)) (hL3:L≤32) (hlen:ts.length+1=2*L) (hTr:Qaw ((L:Nat):Int)=true) (m:Nat) (hm:m<L) (hus:(ndi ts (2*m)).n.us=true) (hf:0≤Qa7 ts nd.n.nm) (hf2:Qa7 ts nd.n.nm≠((m:Nat):Int)):Calls Tryd.prog 27 #[.slice a_t ts.length c_t,.int .i64 ((m:Nat):Int),.agg (cat [#[.bool nd.n.us],#[.int .i64 nd.n.nm],ints .u8 (nd.n.key),ints .u8 (nd.n.sg),ints .u8 (nd.n.pa),#[.slice nd.a nd.n.ms.length nd.c]])] w (Ret w (.tuple #[.slice none 0 0,.iface 30 (.int .i64 9)])):=by
  refine enter 48 [(0,.slice a_t ts.length c_t),(1,.int .i64 ((m:Nat):Int)),(2,.agg (cat [#[.bool nd.n.us],#[.int .i64 nd.n.nm],ints .u8 (nd.n.key),ints .u8 (nd.n.sg),ints .u8 (nd.n.pa),#[.slice nd.a nd.n.ms.length nd.c]]))] Tryd.func27 rfl rfl kj rfl ?_
  refine wp_seq_k fun K1 hK1=>?_
  refine Qab ?_
  refine Qan (cat [#[.bool nd.n.us],#[.int .i64 nd.n.nm],ints .u8 (nd.n.key),ints .u8 (nd.n.sg),ints .u8 (nd.n.pa),#[.slice nd.a nd.n.ms.length nd.c]]) 41 5 rfl kj kj fun g2 W1 l2 e1 r2_1=>?_
  have x1:Ext w W1:=Ext.tr (Rely.Ext.refl w) e1
  have b2:w.heap.size≤g2:=qT (Rely.Ext.refl w).size l2
  refine Qaa (.slice none 0 0) 6 rfl kj kj ?_
  refine Qaa (.nilIface) 7 rfl kj kj ?_
  refine Qae ?_
  refine hK1 _ _ ?_
  refine wp_seq_k fun K3 hK3=>?_
  refine wp_seq_k fun K4 hK4=>?_
  refine Qab ?_
  refine Qaa (.slice a_t ts.length c_t) 10 rfl kj kj ?_
  refine Qaj (.nilIface) 11 #[.slice a_t ts.length c_t] 11 rfl kj kj (Qb6 ts a_t c_t _ _ (TrAt.ext ht x1) htl (fun i hi=>qT (hmt i hi) (by decide)) (TabAt.ext hT x1) hc) fun W2 e2=>?_
  have x2:Ext w W2:=Ext.tr x1 e2
  refine Qaa (.bool false) 12 rfl kj kj ?_
  refine Qaa (.bool false) 13 rfl kj kj ?_
  have r2_2:=(Qah r2_1 e2)
  refine Qaa (.agg (cat [#[.bool nd.n.us],#[.int .i64 nd.n.nm],ints .u8 (nd.n.key),ints .u8 (nd.n.sg),ints .u8 (nd.n.pa),#[.slice nd.a nd.n.ms.length nd.c]])) 14 rfl kj (Qau 41 _ g2 41 _ _ r2_2 rfl kj kj (isz (n:=99) kj (by rw [Qac,Qac,Qac,Qac,Qac,Qac]; simp only [qS,cat,((Qaf _ _).trans hok.gl),((Qaf _ _).trans hok.kl),((Qaf _ _).trans hok.pl)]; rfl))) ?_
  refine Qaj (.bool true) 50 #[.agg (cat [#[.bool nd.n.us],#[.int .i64 nd.n.nm],ints .u8 (nd.n.key),ints .u8 (nd.n.sg),ints .u8 (nd.n.pa),#[.slice nd.a nd.n.ms.length nd.c]])] 15 rfl kj kj ((hs▸Qce nd hok _)) fun W3 e3=>?_
  have x3:Ext w W3:=Ext.tr x2 e3
  refine Qaa (.bool false) 16 rfl kj kj ?_
  refine Qaa (.bool false) 17 rfl kj kj ?_
  refine Qae ?_
  refine hK4 _ _ ?_
  refine cond_false kj ?_
  refine wp_skip ?_
  refine hK3 _ _ ?_
  refine wp_seq_k fun K5 hK5=>?_
  refine wp_seq_k fun K6 hK6=>?_
  refine Qab ?_
  refine Qaa (.slice a_t ts.length c_t) 19 rfl kj kj ?_
  refine Qaa (.int .i64 ((m:Nat):Int)) 20 rfl kj kj ?_
  refine Qaj (.bool true) 55 #[.slice a_t ts.length c_t,.int .i64 ((m:Nat):Int)] 21 rfl kj kj ((hus▸QcK ts a_t c_t _ _ (TrAt.ext ht x3) htl L hL (by omega) m hm)) fun W4 e4=>?_
  have x4:Ext w W4:=Ext.tr x3 e4
  refine Qaa (.bool false) 22 rfl kj kj ?_
  refine Qae ?_
  refine hK6 _ _ ?_
  refine cond_false kj ?_
  refine wp_skip ?_
  refine hK5 _ _ ?_
  refine wp_seq_k fun K7 hK7=>?_
  refine wp_seq_k fun K8 hK8=>?_
  refine Qab ?_
  refine Qaa (.slice a_t ts.length c_t) 24 rfl kj kj ?_
  refine Qaa (.pointer (some ⟨g2,1,none⟩)) 25 rfl kj kj ?_
  have r2_3:=(Qah r2_2 e3)
  have r2_4:=(Qah r2_3 e4)
  refine Qaa (.int .i64 nd.n.nm) 26 rfl kj (Qag 3 _ g2 1 41 _ (.int .i64 nd.n.nm) _ r2_4 rfl kj (Qal [#[.bool nd.n.us]] [#[.int .i64 nd.n.nm]] [ints .u8 (nd.n.key),ints .u8 (nd.n.sg),ints .u8 (nd.n.pa),#[.slice nd.a nd.n.ms.length nd.c]] 1 kj 0 _ rfl) kj) ?_
  refine Qaj (.int .i64 (Qa7 ts nd.n.nm)) 46 #[.slice a_t ts.length c_t,.int .i64 nd.n.nm] 27 rfl kj kj (QfU ts a_t c_t _ _ (TrAt.ext ht x4) htl L hL (by omega) hL3 hlen nd.n.nm) fun W5 e5=>?_
  have x5:Ext w W5:=Ext.tr x4 e5
  refine Qaa (.int .i64 (Qa7 ts nd.n.nm)) 8 rfl kj kj ?_
  refine Qae ?_
  refine hK8 _ _ ?_
  refine wp_seq_k fun K9 hK9=>?_
  refine Qab ?_
  refine Qaa (.int .i64 (Qa7 ts nd.n.nm)) 28 rfl kj kj ?_
  refine Qaa (.bool true) 29 rfl kj (Qai (u:=.bool (decide ((Qa7 ts nd.n.nm)≥0))) kj (congrArg Value.bool (decide_eq_true (by omega)))) ?_
  refine Qaa (.bool true) 30 rfl kj kj ?_
  refine Qaa (.int .i64 (Qa7 ts nd.n.nm)) 31 rfl kj kj ?_
  refine Qaa (.int .i64 ((m:Nat):Int)) 32 rfl kj kj ?_
  refine Qaa (.bool true) 33 rfl kj (Qai (u:=.bool (((Qa7 ts nd.n.nm) != ((m:Nat):Int)))) kj (congrArg Value.bool (bne_iff_ne.2 hf2))) ?_
  refine Qaa (.bool true) 34 rfl kj kj ?_
  refine Qae ?_
  refine hK9 _ _ ?_
  refine cond_true kj ?_
  refine wp_seq_k fun K10 hK10=>?_
  refine Qab ?_
  refine Qaa (.iface 30 (.int .i64 9)) 35 rfl kj kj ?_
  refine Qaa (.slice none 0 0) 6 rfl kj kj ?_
  refine Qaa (.iface 30 (.int .i64 9)) 7 rfl kj kj ?_
  refine Qae ?_
  refine hK10 _ _ ?_
  refine wp_ret ?_
  repeat (first | with_reducible refine goR1 ?_ | with_reducible refine goR2 ?_)
  exact (show bodyPost _ _ _ .ret _ _ from ret2 (.slice none 0 0) (.iface 30 (.int .i64 9)) rfl (Qam kj) (Qam kj) ⟨rfl,x5⟩)
set_option maxRecDepth 100000 in
theorem QiF (ts : List NdV) (a_t:Option Addr) (c_t B1:Nat) (w:World) (ht:TrAt B1 w a_t ts) (htl:ts.length≤100000) (hmt:∀ i,i<ts.length→(ndi ts i).n.ms.length≤1000) (hT:TabAt w) (nd:NdV) (hok:NdOk nd.n) (hc:chkT ts=true) (hs:QaD nd.n=true) (L:Nat) (hL:leaves ((ts.length:Nat):Int)=((L:Nat):Int)) (hL3:L≤32) (hlen:ts.length+1=2*L) (hTr:Qaw ((L:Nat):Int)=true) (m:Nat) (hm:m<L) (hus:(ndi ts (2*m)).n.us=true) (hf:Qa7 ts nd.n.nm<0) (hnm:nd.n.ms.length≤1000) (B2:Nat) (hr:RdK .i64 B2 nd.n.ms (.slice nd.a nd.n.ms.length nd.c) w):Calls Tryd.prog 27 #[.slice a_t ts.length c_t,.int .i64 ((m:Nat):Int),.agg (cat [#[.bool nd.n.us],#[.int .i64 nd.n.nm],ints .u8 (nd.n.key),ints .u8 (nd.n.sg),ints .u8 (nd.n.pa),#[.slice nd.a nd.n.ms.length nd.c]])] w (Qbw w (UpdR ts nd m L w)):=by
  refine enter 48 [(0,.slice a_t ts.length c_t),(1,.int .i64 ((m:Nat):Int)),(2,.agg (cat [#[.bool nd.n.us],#[.int .i64 nd.n.nm],ints .u8 (nd.n.key),ints .u8 (nd.n.sg),ints .u8 (nd.n.pa),#[.slice nd.a nd.n.ms.length nd.c]]))] Tryd.func27 rfl rfl kj rfl ?_
  refine wp_seq_k fun K1 hK1=>?_
  refine Qab ?_
  refine Qan (cat [#[.bool nd.n.us],#[.int .i64 nd.n.nm],ints .u8 (nd.n.key),ints .u8 (nd.n.sg),ints .u8 (nd.n.pa),#[.slice nd.a nd.n.ms.length nd.c]]) 41 5 rfl kj kj fun g2 W1 l2 e1 r2_1=>?_
  have x1:Ext w W1:=Ext.tr (Rely.Ext.refl w) e1
  have b2:w.heap.size≤g2:=qT (Rely.Ext.refl w).size l2
  refine Qaa (.slice none 0 0) 6 rfl kj kj ?_
  refine Qaa (.nilIface) 7 rfl kj kj ?_
  refine Qae ?_
  refine hK1 _ _ ?_
  refine wp_seq_k fun K3 hK3=>?_
  refine wp_seq_k fun K4 hK4=>?_
  refine Qab ?_
  refine Qaa (.slice a_t ts.length c_t) 10 rfl kj kj ?_
  refine Qaj (.nilIface) 11 #[.slice a_t ts.length c_t] 11 rfl kj kj (Qb6 ts a_t c_t _ _ (TrAt.ext ht x1) htl (fun i hi=>qT (hmt i hi) (by decide)) (TabAt.ext hT x1) hc) fun W2 e2=>?_
  have x2:Ext w W2:=Ext.tr x1 e2
  refine Qaa (.bool false) 12 rfl kj kj ?_
  refine Qaa (.bool false) 13 rfl kj kj ?_
  have r2_2:=(Qah r2_1 e2)
  refine Qaa (.agg (cat [#[.bool nd.n.us],#[.int .i64 nd.n.nm],ints .u8 (nd.n.key),ints .u8 (nd.n.sg),ints .u8 (nd.n.pa),#[.slice nd.a nd.n.ms.length nd.c]])) 14 rfl kj (Qau 41 _ g2 41 _ _ r2_2 rfl kj kj (isz (n:=99) kj (by rw [Qac,Qac,Qac,Qac,Qac,Qac]; simp only [qS,cat,((Qaf _ _).trans hok.gl),((Qaf _ _).trans hok.kl),((Qaf _ _).trans hok.pl)]; rfl))) ?_
  refine Qaj (.bool true) 50 #[.agg (cat [#[.bool nd.n.us],#[.int .i64 nd.n.nm],ints .u8 (nd.n.key),ints .u8 (nd.n.sg),ints .u8 (nd.n.pa),#[.slice nd.a nd.n.ms.length nd.c]])] 15 rfl kj kj ((hs▸Qce nd hok _)) fun W3 e3=>?_
  have x3:Ext w W3:=Ext.tr x2 e3
  refine Qaa (.bool false) 16 rfl kj kj ?_
  refine Qaa (.bool false) 17 rfl kj kj ?_
  refine Qae ?_
  refine hK4 _ _ ?_
  refine cond_false kj ?_
  refine wp_skip ?_
  refine hK3 _ _ ?_
  refine wp_seq_k fun K5 hK5=>?_
  refine wp_seq_k fun K6 hK6=>?_
  refine Qab ?_
  refine Qaa (.slice a_t ts.length c_t) 19 rfl kj kj ?_
  refine Qaa (.int .i64 ((m:Nat):Int)) 20 rfl kj kj ?_
  refine Qaj (.bool true) 55 #[.slice a_t ts.length c_t,.int .i64 ((m:Nat):Int)] 21 rfl kj kj ((hus▸QcK ts a_t c_t _ _ (TrAt.ext ht x3) htl L hL (by omega) m hm)) fun W4 e4=>?_
  have x4:Ext w W4:=Ext.tr x3 e4
  refine Qaa (.bool false) 22 rfl kj kj ?_
  refine Qae ?_
  refine hK6 _ _ ?_
  refine cond_false kj ?_
  refine wp_skip ?_
  refine hK5 _ _ ?_
  refine wp_seq_k fun K7 hK7=>?_
  refine wp_seq_k fun K8 hK8=>?_
  refine Qab ?_
  refine Qaa (.slice a_t ts.length c_t) 24 rfl kj kj ?_
  refine Qaa (.pointer (some ⟨g2,1,none⟩)) 25 rfl kj kj ?_
  have r2_3:=(Qah r2_2 e3)
  have r2_4:=(Qah r2_3 e4)
  refine Qaa (.int .i64 nd.n.nm) 26 rfl kj (Qag 3 _ g2 1 41 _ (.int .i64 nd.n.nm) _ r2_4 rfl kj (Qal [#[.bool nd.n.us]] [#[.int .i64 nd.n.nm]] [ints .u8 (nd.n.key),ints .u8 (nd.n.sg),ints .u8 (nd.n.pa),#[.slice nd.a nd.n.ms.length nd.c]] 1 kj 0 _ rfl) kj) ?_
  refine Qaj (.int .i64 (Qa7 ts nd.n.nm)) 46 #[.slice a_t ts.length c_t,.int .i64 nd.n.nm] 27 rfl kj kj (QfU ts a_t c_t _ _ (TrAt.ext ht x4) htl L hL (by omega) hL3 hlen nd.n.nm) fun W5 e5=>?_
  have x5:Ext w W5:=Ext.tr x4 e5
  refine Qaa (.int .i64 (Qa7 ts nd.n.nm)) 8 rfl kj kj ?_
  refine Qae ?_
  refine hK8 _ _ ?_
  refine wp_seq_k fun K9 hK9=>?_
  refine Qab ?_
  refine Qaa (.int .i64 (Qa7 ts nd.n.nm)) 28 rfl kj kj ?_
  refine Qaa (.bool false) 29 rfl kj (Qai (u:=.bool (decide ((Qa7 ts nd.n.nm)≥0))) kj (congrArg Value.bool (decide_eq_false (by omega)))) ?_
  refine Qaa (.bool false) 30 rfl kj kj ?_
  refine Qad 31 rfl kj ?_
  refine Qad 32 rfl kj ?_
  refine Qad 33 rfl kj ?_
  refine Qaa (.bool false) 34 rfl kj kj ?_
  refine Qae ?_
  refine hK9 _ _ ?_
  refine cond_false kj ?_
  refine wp_skip ?_
  refine hK7 _ _ ?_
  refine wp_seq_k fun K10 hK10=>?_
  refine Qab ?_
  refine Qaa (.slice a_t ts.length c_t) 36 rfl kj kj ?_
  refine Qa0 (fun v W'=>(fun v W=>∃ us,AsC us ts∧OwT W5.heap.size us v W∧∃ g,v=.slice (some ⟨g,0,none⟩) ts.length ts.length) v W'∧Ext W5 W') 16 #[.slice a_t ts.length c_t] 37 rfl kj kj ((Qiu ts a_t _ _ _ (TrAt.ext ht x5) htl hmt).mono (by rintro e w' ⟨v,rfl,e1,hv⟩; exact ⟨v,rfl,hv,e1⟩)) fun vv11 W6 hh11=>?_
  obtain ⟨hv11,e6⟩:=hh11
  have x6:Ext w W6:=Ext.tr x5 e6
  obtain ⟨us,has,hU,gO,rfl⟩:=hv11
  obtain ⟨lgO,cuO,rO6⟩:=hU.rowBlock (g:=gO) rfl
  have bgO:w.heap.size≤gO:=qT x5.size lgO
  refine Qaa (.slice (some ⟨gO,0,none⟩) ts.length ts.length) 9 rfl kj kj ?_
  refine Qae ?_
  refine hK10 _ _ ?_
  refine wp_seq_k fun K13 hK13=>?_
  refine Qab ?_
  refine Qaa (.slice (some ⟨gO,0,none⟩) ts.length ts.length) 38 rfl kj kj ?_
  refine Qaa (.int .i64 ((m:Nat):Int)) 39 rfl kj kj ?_
  refine Qaa (.int .i64 (((2*m:Nat):Int))) 40 rfl kj (Qai (u:=.int .i64 (IntKind.i64.wrap (2*((m:Nat):Int)))) kj (congrArg (Value.int .i64) ((IntWalk.i64_in _ (by omega)).trans (by omega)))) ?_
  have r2_5:=(Qah r2_4 e5)
  have r2_6:=(Qah r2_5 e6)
  refine Qaa (.agg (cat [#[.bool nd.n.us],#[.int .i64 nd.n.nm],ints .u8 (nd.n.key),ints .u8 (nd.n.sg),ints .u8 (nd.n.pa),#[.slice nd.a nd.n.ms.length nd.c]])) 41 rfl kj (Qau 41 _ g2 41 _ _ r2_6 rfl kj kj (isz (n:=99) kj (by rw [Qac,Qac,Qac,Qac,Qac,Qac]; simp only [qS,cat,((Qaf _ _).trans hok.gl),((Qaf _ _).trans hok.kl),((Qaf _ _).trans hok.pl)]; rfl))) ?_
  refine Qa0 (fun v W'=>(fun v W9=>∃ u,v=.agg (cat [#[.bool nd.n.us],#[.int .i64 nd.n.nm],ints .u8 (nd.n.key),ints .u8 (nd.n.sg),ints .u8 (nd.n.pa),#[u]])∧OwnN .i64 3 W6.heap.size nd.n.ms u W9) v W'∧Ext W6 W') 45 #[.agg (cat [#[.bool nd.n.us],#[.int .i64 nd.n.nm],ints .u8 (nd.n.key),ints .u8 (nd.n.sg),ints .u8 (nd.n.pa),#[.slice nd.a nd.n.ms.length nd.c]])] 42 rfl kj kj ((QgA nd hok _ _ (qT hnm (by decide)) (RdK.here (RdK.ext hr x6))).mono (by rintro e w' ⟨v,rfl,e1,hv⟩; exact ⟨v,rfl,hv,e1⟩)) fun vv14 W7 hh14=>?_
  obtain ⟨hv14,e7⟩:=hh14
  have x7:Ext w W7:=Ext.tr x6 e7
  obtain ⟨u5,rfl,hu5⟩:=hv14
  obtain ⟨a5,c5,rfl,-⟩:=id (OwnN.rd hu5)
  refine Qaa (.pointer (some ⟨gO,0+(2*m)*99,none⟩)) 43 rfl kj (Qa1 23 _ _ .i64 (2*m) gO 0 ts.length ts.length 41 99 rfl kj kj kj kj (by omega)) ?_
  have hV0:=(OwH.ext hU e7)
  have hn5:NdIn W5.heap.size W7 (⟨nd.n,a5,c5⟩:NdV):=⟨hok,hnm,OwnN.base (qT (qR _) e6.size) hu5⟩
  have hne5:∀ j,j<ts.length→j≠2*m→∀ g,ob (⟨nd.n,a5,c5⟩:NdV)=some g→ob (ndi us j)≠some g:=fun j hj _ g h1 h2=>by have h3:=OwnN.ge hu5 h1; have h4:=(hU.nd j (by have:=has.1; omega) (by simp)).lt h2; have h5:W6.heap.size≤W6.heap.size:=(qR _); omega
  refine Qc8 41 _ _ gO (2*m) ts.length (h:=none) (has.1) hV0 (.inl rfl) (by omega) hn5 hne5 rfl kj kj kj rfl kj fun W8 p8 hU2=>?_
  have x8:Ext w W8:=Puts.ext p8 x7 bgO
  refine Qae ?_
  refine hK13 _ _ ?_
  refine wp_seq_k fun K15 hK15=>?_
  refine Qab ?_
  refine Qaa (.slice (some ⟨gO,0,none⟩) ts.length ts.length) 44 rfl kj kj ?_
  refine Qaa (.int .i64 ((m:Nat):Int)) 45 rfl kj kj ?_
  refine Qa0 (fun v W'=>v=.tuple #[]∧ExtB gO W8 W'∧OwT W5.heap.size (blkT (us.set (2*m) ⟨nd.n,a5,c5⟩) (2*((m:Nat):Int)) ((L:Nat):Int)) (.slice (some ⟨gO,0,none⟩) ts.length ts.length) W') 56 #[.slice (some ⟨gO,0,none⟩) ts.length ts.length,.int .i64 ((m:Nat):Int)] 46 rfl kj kj ((Qi1 (us.set (2*m) ⟨nd.n,a5,c5⟩) gO ts.length ts.length _ _ ((List.length_set ..).trans has.1) hU2 L hL hlen hTr htl (TabAt.ext hT x8) (Nat.ne_of_lt (qL hT.1 bgO)) m (by omega)).mono (by rintro e w' ⟨rfl,q1,q2⟩; exact ⟨_,rfl,rfl,q1,q2⟩)) fun vv16 W9 hh16=>?_
  obtain ⟨rfl,q9,hU3⟩:=hh16
  have x9:Ext w W9:=ExtB.up x8 q9 bgO
  refine Qae ?_
  refine hK15 _ _ ?_
  refine wp_seq_k fun K17 hK17=>?_
  refine Qab ?_
  refine Qaa (.slice (some ⟨gO,0,none⟩) ts.length ts.length) 47 rfl kj kj ?_
  refine Qaa (.slice (some ⟨gO,0,none⟩) ts.length ts.length) 6 rfl kj kj ?_
  refine Qaa (.nilIface) 7 rfl kj kj ?_
  refine Qae ?_
  refine hK17 _ _ ?_
  refine wp_ret ?_
  repeat (first | with_reducible refine goR1 ?_ | with_reducible refine goR2 ?_)
  exact (show bodyPost _ _ _ .ret _ _ from ret2 (.slice (some ⟨gO,0,none⟩) ts.length ts.length) (.nilIface) rfl (Qam kj) (Qam kj) ⟨_,rfl,x9,us,⟨nd.n,a5,c5⟩,has,rfl,(by rw [Qb7,List.length_set]; exact has.1),_,.nilIface,rfl,OwH.low (hU3) x5.size⟩)
set_option maxRecDepth 100000 in
theorem QiB (ts : List NdV) (a_t:Option Addr) (c_t B1:Nat) (w:World) (ht:TrAt B1 w a_t ts) (htl:ts.length≤100000) (hmt:∀ i,i<ts.length→(ndi ts i).n.ms.length≤1000) (hT:TabAt w) (nd:NdV) (hok:NdOk nd.n) (hc:chkT ts=true) (hs:QaD nd.n=true) (L:Nat) (hL:leaves ((ts.length:Nat):Int)=((L:Nat):Int)) (hL3:L≤32) (hlen:ts.length+1=2*L) (hTr:Qaw ((L:Nat):Int)=true) (m:Nat) (hm:m<L) (hus:(ndi ts (2*m)).n.us=true) (hf:0≤Qa7 ts nd.n.nm) (hf2:Qa7 ts nd.n.nm=((m:Nat):Int)) (hnm:nd.n.ms.length≤1000) (B2:Nat) (hr:RdK .i64 B2 nd.n.ms (.slice nd.a nd.n.ms.length nd.c) w):Calls Tryd.prog 27 #[.slice a_t ts.length c_t,.int .i64 ((m:Nat):Int),.agg (cat [#[.bool nd.n.us],#[.int .i64 nd.n.nm],ints .u8 (nd.n.key),ints .u8 (nd.n.sg),ints .u8 (nd.n.pa),#[.slice nd.a nd.n.ms.length nd.c]])] w (Qbw w (UpdR ts nd m L w)):=by
  refine enter 48 [(0,.slice a_t ts.length c_t),(1,.int .i64 ((m:Nat):Int)),(2,.agg (cat [#[.bool nd.n.us],#[.int .i64 nd.n.nm],ints .u8 (nd.n.key),ints .u8 (nd.n.sg),ints .u8 (nd.n.pa),#[.slice nd.a nd.n.ms.length nd.c]]))] Tryd.func27 rfl rfl kj rfl ?_
  refine wp_seq_k fun K1 hK1=>?_
  refine Qab ?_
  refine Qan (cat [#[.bool nd.n.us],#[.int .i64 nd.n.nm],ints .u8 (nd.n.key),ints .u8 (nd.n.sg),ints .u8 (nd.n.pa),#[.slice nd.a nd.n.ms.length nd.c]]) 41 5 rfl kj kj fun g2 W1 l2 e1 r2_1=>?_
  have x1:Ext w W1:=Ext.tr (Rely.Ext.refl w) e1
  have b2:w.heap.size≤g2:=qT (Rely.Ext.refl w).size l2
  refine Qaa (.slice none 0 0) 6 rfl kj kj ?_
  refine Qaa (.nilIface) 7 rfl kj kj ?_
  refine Qae ?_
  refine hK1 _ _ ?_
  refine wp_seq_k fun K3 hK3=>?_
  refine wp_seq_k fun K4 hK4=>?_
  refine Qab ?_
  refine Qaa (.slice a_t ts.length c_t) 10 rfl kj kj ?_
  refine Qaj (.nilIface) 11 #[.slice a_t ts.length c_t] 11 rfl kj kj (Qb6 ts a_t c_t _ _ (TrAt.ext ht x1) htl (fun i hi=>qT (hmt i hi) (by decide)) (TabAt.ext hT x1) hc) fun W2 e2=>?_
  have x2:Ext w W2:=Ext.tr x1 e2
  refine Qaa (.bool false) 12 rfl kj kj ?_
  refine Qaa (.bool false) 13 rfl kj kj ?_
  have r2_2:=(Qah r2_1 e2)
  refine Qaa (.agg (cat [#[.bool nd.n.us],#[.int .i64 nd.n.nm],ints .u8 (nd.n.key),ints .u8 (nd.n.sg),ints .u8 (nd.n.pa),#[.slice nd.a nd.n.ms.length nd.c]])) 14 rfl kj (Qau 41 _ g2 41 _ _ r2_2 rfl kj kj (isz (n:=99) kj (by rw [Qac,Qac,Qac,Qac,Qac,Qac]; simp only [qS,cat,((Qaf _ _).trans hok.gl),((Qaf _ _).trans hok.kl),((Qaf _ _).trans hok.pl)]; rfl))) ?_
  refine Qaj (.bool true) 50 #[.agg (cat [#[.bool nd.n.us],#[.int .i64 nd.n.nm],ints .u8 (nd.n.key),ints .u8 (nd.n.sg),ints .u8 (nd.n.pa),#[.slice nd.a nd.n.ms.length nd.c]])] 15 rfl kj kj ((hs▸Qce nd hok _)) fun W3 e3=>?_
  have x3:Ext w W3:=Ext.tr x2 e3
  refine Qaa (.bool false) 16 rfl kj kj ?_
  refine Qaa (.bool false) 17 rfl kj kj ?_
  refine Qae ?_
  refine hK4 _ _ ?_
  refine cond_false kj ?_
  refine wp_skip ?_
  refine hK3 _ _ ?_
  refine wp_seq_k fun K5 hK5=>?_
  refine wp_seq_k fun K6 hK6=>?_
  refine Qab ?_
  refine Qaa (.slice a_t ts.length c_t) 19 rfl kj kj ?_
  refine Qaa (.int .i64 ((m:Nat):Int)) 20 rfl kj kj ?_
  refine Qaj (.bool true) 55 #[.slice a_t ts.length c_t,.int .i64 ((m:Nat):Int)] 21 rfl kj kj ((hus▸QcK ts a_t c_t _ _ (TrAt.ext ht x3) htl L hL (by omega) m hm)) fun W4 e4=>?_
  have x4:Ext w W4:=Ext.tr x3 e4
  refine Qaa (.bool false) 22 rfl kj kj ?_
  refine Qae ?_
  refine hK6 _ _ ?_
  refine cond_false kj ?_
  refine wp_skip ?_
  refine hK5 _ _ ?_
  refine wp_seq_k fun K7 hK7=>?_
  refine wp_seq_k fun K8 hK8=>?_
  refine Qab ?_
  refine Qaa (.slice a_t ts.length c_t) 24 rfl kj kj ?_
  refine Qaa (.pointer (some ⟨g2,1,none⟩)) 25 rfl kj kj ?_
  have r2_3:=(Qah r2_2 e3)
  have r2_4:=(Qah r2_3 e4)
  refine Qaa (.int .i64 nd.n.nm) 26 rfl kj (Qag 3 _ g2 1 41 _ (.int .i64 nd.n.nm) _ r2_4 rfl kj (Qal [#[.bool nd.n.us]] [#[.int .i64 nd.n.nm]] [ints .u8 (nd.n.key),ints .u8 (nd.n.sg),ints .u8 (nd.n.pa),#[.slice nd.a nd.n.ms.length nd.c]] 1 kj 0 _ rfl) kj) ?_
  refine Qaj (.int .i64 (Qa7 ts nd.n.nm)) 46 #[.slice a_t ts.length c_t,.int .i64 nd.n.nm] 27 rfl kj kj (QfU ts a_t c_t _ _ (TrAt.ext ht x4) htl L hL (by omega) hL3 hlen nd.n.nm) fun W5 e5=>?_
  have x5:Ext w W5:=Ext.tr x4 e5
  refine Qaa (.int .i64 (Qa7 ts nd.n.nm)) 8 rfl kj kj ?_
  refine Qae ?_
  refine hK8 _ _ ?_
  refine wp_seq_k fun K9 hK9=>?_
  refine Qab ?_
  refine Qaa (.int .i64 (Qa7 ts nd.n.nm)) 28 rfl kj kj ?_
  refine Qaa (.bool true) 29 rfl kj (Qai (u:=.bool (decide ((Qa7 ts nd.n.nm)≥0))) kj (congrArg Value.bool (decide_eq_true (by omega)))) ?_
  refine Qaa (.bool true) 30 rfl kj kj ?_
  refine Qaa (.int .i64 (Qa7 ts nd.n.nm)) 31 rfl kj kj ?_
  refine Qaa (.int .i64 ((m:Nat):Int)) 32 rfl kj kj ?_
  refine Qaa (.bool false) 33 rfl kj (Qai (u:=.bool (((Qa7 ts nd.n.nm) != ((m:Nat):Int)))) kj (congrArg Value.bool (bne_eq_false_iff_eq.2 hf2))) ?_
  refine Qaa (.bool false) 34 rfl kj kj ?_
  refine Qae ?_
  refine hK9 _ _ ?_
  refine cond_false kj ?_
  refine wp_skip ?_
  refine hK7 _ _ ?_
  refine wp_seq_k fun K10 hK10=>?_
  refine Qab ?_
  refine Qaa (.slice a_t ts.length c_t) 36 rfl kj kj ?_
  refine Qa0 (fun v W'=>(fun v W=>∃ us,AsC us ts∧OwT W5.heap.size us v W∧∃ g,v=.slice (some ⟨g,0,none⟩) ts.length ts.length) v W'∧Ext W5 W') 16 #[.slice a_t ts.length c_t] 37 rfl kj kj ((Qiu ts a_t _ _ _ (TrAt.ext ht x5) htl hmt).mono (by rintro e w' ⟨v,rfl,e1,hv⟩; exact ⟨v,rfl,hv,e1⟩)) fun vv11 W6 hh11=>?_
  obtain ⟨hv11,e6⟩:=hh11
  have x6:Ext w W6:=Ext.tr x5 e6
  obtain ⟨us,has,hU,gO,rfl⟩:=hv11
  obtain ⟨lgO,cuO,rO6⟩:=hU.rowBlock (g:=gO) rfl
  have bgO:w.heap.size≤gO:=qT x5.size lgO
  refine Qaa (.slice (some ⟨gO,0,none⟩) ts.length ts.length) 9 rfl kj kj ?_
  refine Qae ?_
  refine hK10 _ _ ?_
  refine wp_seq_k fun K13 hK13=>?_
  refine Qab ?_
  refine Qaa (.slice (some ⟨gO,0,none⟩) ts.length ts.length) 38 rfl kj kj ?_
  refine Qaa (.int .i64 ((m:Nat):Int)) 39 rfl kj kj ?_
  refine Qaa (.int .i64 (((2*m:Nat):Int))) 40 rfl kj (Qai (u:=.int .i64 (IntKind.i64.wrap (2*((m:Nat):Int)))) kj (congrArg (Value.int .i64) ((IntWalk.i64_in _ (by omega)).trans (by omega)))) ?_
  have r2_5:=(Qah r2_4 e5)
  have r2_6:=(Qah r2_5 e6)
  refine Qaa (.agg (cat [#[.bool nd.n.us],#[.int .i64 nd.n.nm],ints .u8 (nd.n.key),ints .u8 (nd.n.sg),ints .u8 (nd.n.pa),#[.slice nd.a nd.n.ms.length nd.c]])) 41 rfl kj (Qau 41 _ g2 41 _ _ r2_6 rfl kj kj (isz (n:=99) kj (by rw [Qac,Qac,Qac,Qac,Qac,Qac]; simp only [qS,cat,((Qaf _ _).trans hok.gl),((Qaf _ _).trans hok.kl),((Qaf _ _).trans hok.pl)]; rfl))) ?_
  refine Qa0 (fun v W'=>(fun v W9=>∃ u,v=.agg (cat [#[.bool nd.n.us],#[.int .i64 nd.n.nm],ints .u8 (nd.n.key),ints .u8 (nd.n.sg),ints .u8 (nd.n.pa),#[u]])∧OwnN .i64 3 W6.heap.size nd.n.ms u W9) v W'∧Ext W6 W') 45 #[.agg (cat [#[.bool nd.n.us],#[.int .i64 nd.n.nm],ints .u8 (nd.n.key),ints .u8 (nd.n.sg),ints .u8 (nd.n.pa),#[.slice nd.a nd.n.ms.length nd.c]])] 42 rfl kj kj ((QgA nd hok _ _ (qT hnm (by decide)) (RdK.here (RdK.ext hr x6))).mono (by rintro e w' ⟨v,rfl,e1,hv⟩; exact ⟨v,rfl,hv,e1⟩)) fun vv14 W7 hh14=>?_
  obtain ⟨hv14,e7⟩:=hh14
  have x7:Ext w W7:=Ext.tr x6 e7
  obtain ⟨u5,rfl,hu5⟩:=hv14
  obtain ⟨a5,c5,rfl,-⟩:=id (OwnN.rd hu5)
  refine Qaa (.pointer (some ⟨gO,0+(2*m)*99,none⟩)) 43 rfl kj (Qa1 23 _ _ .i64 (2*m) gO 0 ts.length ts.length 41 99 rfl kj kj kj kj (by omega)) ?_
  have hV0:=(OwH.ext hU e7)
  have hn5:NdIn W5.heap.size W7 (⟨nd.n,a5,c5⟩:NdV):=⟨hok,hnm,OwnN.base (qT (qR _) e6.size) hu5⟩
  have hne5:∀ j,j<ts.length→j≠2*m→∀ g,ob (⟨nd.n,a5,c5⟩:NdV)=some g→ob (ndi us j)≠some g:=fun j hj _ g h1 h2=>by have h3:=OwnN.ge hu5 h1; have h4:=(hU.nd j (by have:=has.1; omega) (by simp)).lt h2; have h5:W6.heap.size≤W6.heap.size:=(qR _); omega
  refine Qc8 41 _ _ gO (2*m) ts.length (h:=none) (has.1) hV0 (.inl rfl) (by omega) hn5 hne5 rfl kj kj kj rfl kj fun W8 p8 hU2=>?_
  have x8:Ext w W8:=Puts.ext p8 x7 bgO
  refine Qae ?_
  refine hK13 _ _ ?_
  refine wp_seq_k fun K15 hK15=>?_
  refine Qab ?_
  refine Qaa (.slice (some ⟨gO,0,none⟩) ts.length ts.length) 44 rfl kj kj ?_
  refine Qaa (.int .i64 ((m:Nat):Int)) 45 rfl kj kj ?_
  refine Qa0 (fun v W'=>v=.tuple #[]∧ExtB gO W8 W'∧OwT W5.heap.size (blkT (us.set (2*m) ⟨nd.n,a5,c5⟩) (2*((m:Nat):Int)) ((L:Nat):Int)) (.slice (some ⟨gO,0,none⟩) ts.length ts.length) W') 56 #[.slice (some ⟨gO,0,none⟩) ts.length ts.length,.int .i64 ((m:Nat):Int)] 46 rfl kj kj ((Qi1 (us.set (2*m) ⟨nd.n,a5,c5⟩) gO ts.length ts.length _ _ ((List.length_set ..).trans has.1) hU2 L hL hlen hTr htl (TabAt.ext hT x8) (Nat.ne_of_lt (qL hT.1 bgO)) m (by omega)).mono (by rintro e w' ⟨rfl,q1,q2⟩; exact ⟨_,rfl,rfl,q1,q2⟩)) fun vv16 W9 hh16=>?_
  obtain ⟨rfl,q9,hU3⟩:=hh16
  have x9:Ext w W9:=ExtB.up x8 q9 bgO
  refine Qae ?_
  refine hK15 _ _ ?_
  refine wp_seq_k fun K17 hK17=>?_
  refine Qab ?_
  refine Qaa (.slice (some ⟨gO,0,none⟩) ts.length ts.length) 47 rfl kj kj ?_
  refine Qaa (.slice (some ⟨gO,0,none⟩) ts.length ts.length) 6 rfl kj kj ?_
  refine Qaa (.nilIface) 7 rfl kj kj ?_
  refine Qae ?_
  refine hK17 _ _ ?_
  refine wp_ret ?_
  repeat (first | with_reducible refine goR1 ?_ | with_reducible refine goR2 ?_)
  exact (show bodyPost _ _ _ .ret _ _ from ret2 (.slice (some ⟨gO,0,none⟩) ts.length ts.length) (.nilIface) rfl (Qam kj) (Qam kj) ⟨_,rfl,x9,us,⟨nd.n,a5,c5⟩,has,rfl,(by rw [Qb7,List.length_set]; exact has.1),_,.nilIface,rfl,OwH.low (hU3) x5.size⟩)
end Go.Proofs.YtcmaolmofgmkhaaDoor.Te
end
section
namespace Go.Proofs.YtcmaolmofgmkhaaDoor.Te
open Go Go.RowKit
open Rely Auto Own Seat Sha
theorem QjH {xs : List Int} {k:Nat} (h:k<xs.length):nth xs k∈xs:=by
  unfold nth
  rw [List.getD_eq_getElem?_getD,List.getElem?_eq_getElem h]
  exact List.getElem_mem h
end Go.Proofs.YtcmaolmofgmkhaaDoor.Te
end
section
namespace Go.Proofs.YtcmaolmofgmkhaaDoor.Te
open Go Go.RowKit
open Rely Auto Own Seat Sha
theorem Qg7 (pl : Nat→Option (Nat×Nat)):∀ (ps:List (Nat×Nat×Value×Array Value)) (pre:List (Array Value)) (rest:Array Value) (off:Nat),(cat pre).size=off→okPl pl off ps→tot ps=rest.size →
    Instr.fill pl (cat pre++rest) (ps.map fun x=>(x.1,x.2.2.1))=some (cat (pre++ps.map fun x=>x.2.2.2))
  | [],pre,rest,off,_,_,ht=>by
    have:rest=#[]:=Array.eq_empty_of_size_eq_zero ht.symm
    subst this
    simp [Instr.fill]
  | (i,n,v,p)::r,pre,rest,off,hoff,⟨h1,h2,h3,h4⟩,ht=>by
    subst h2
    have hn:n≤rest.size:=by rw [←ht,tot]; omega
    simp only [List.map_cons,Instr.fill,h1,h3]
    rw [if_neg (by simp; omega)]
    have hz:(v.cells.zipIdx.foldl (fun cs (x:Value×Nat)=>cs.setIfInBounds (off+x.2) x.1) (cat pre++rest))=cat (pre++[v.cells])++rest.extract n rest.size:=by
      have e1:v.cells.zipIdx=(v.cells.toList.zipIdx 0).toArray:=by
        apply Array.ext'
        simp
      rw [e1,List.foldl_toArray',Qd7]
      · have e2:rest=rest.extract 0 n++rest.extract n rest.size:=by
          rw [Array.extract_append_extract,Nat.max_eq_right hn]
          simp
        have e3:(cat pre++rest)=cat (pre++([rest.extract 0 n]++[rest.extract n rest.size])):=by
          rw [QaS]
          congr 1
        rw [Nat.add_zero,e3]
        have:=QgZ pre [rest.extract 0 n] [v.cells] [rest.extract n rest.size] off hoff (by show v.cells.size=(rest.extract 0 n).size; simp; omega)
        rw [show (cat [v.cells]).toList=v.cells.toList from rfl] at this
        rw [this,←List.append_assoc,QaS (pre++[v.cells])]
        rfl
      · rfl
    have key:=Qg7 pl r (pre++[v.cells]) (rest.extract n rest.size) (off+n) (by rw [QaS]; show (cat pre++v.cells).size=_; simp; omega) h4 (by simp; rw [←ht,tot]; omega)
    rw [←hz] at key
    rw [List.append_assoc] at key
    exact key
theorem Qh8 {P : Program} {ρ:Operand→Value} {o:Oper} {w:World} (t e:TypeId) (sz:Nat) (x:Operand) (v:Value) (ho:o.op=.buildSlice t 1 #[(0,x)]) (hx:ρ x=v) (hu:P.underlying t=some (.slice e)) (hs:(P.info? e).map (·.size)=some sz) (hz:((P.info? e).bind (·.zero)).isSome=true) (hv:v.cells.size=sz) (h0:0<sz) (hl:sz≤2^24) :
    (execOp ρ o).run P w=.ok (.value (.slice (some ⟨w.heap.size,0,none⟩) 1 1)) (w.alloc (.cells v.cells e)):=by
  cases hie:P.info? e with
  | none=>simp [hie] at hs
  | some ie =>
    simp only [hie,Option.map_some,Option.some.injEq,Option.bind_some] at hs hz
    obtain ⟨z,hzz⟩:=Option.isSome_iff_exists.1 hz
    subst hx
    have hf:Instr.fill (fun i=>some (i*ie.size,ie.size)) ((Array.range (1*ie.size)).map (z.cells[·%z.cells.size]!)) (Array.map (fun p:Nat×Operand=>(p.1,ρ p.2)) #[(0,x)]).toList=some (ρ x).cells:=by
      have:=Qg7 (fun i=>some (i*ie.size,ie.size)) [(0,ie.size,ρ x,(ρ x).cells)] [] ((Array.range (1*ie.size)).map (z.cells[·%z.cells.size]!)) 0 rfl ⟨by simp,rfl,by rw [hv,hs],trivial⟩ (by simp [tot])
      simpa [cat] using this
    have hr:=run_buildSlice w t e 1 (Array.map (fun p:Nat×Operand=>(p.1,ρ p.2)) #[(0,x)]) (ρ x).cells ie z hu hie hzz (by rw [hs]; omega) (by rw [hs]; omega) hf
    unfold execOp
    simp only [ho,Sem.run_bind]
    rw [hr]
    rfl
theorem Qe2 {base g:Nat} {w W W':World} (p:Puts W g W') (x:Below base w W) (hg:base≤g):Below base w W' :=
  ⟨p.1.trans x.os,p.2.1.trans x.tape,p.2.2.1.trans x.output,by have:=x.size; have:=p.2.2.2.1; omega,fun k hk=>(p.2.2.2.2 k (by omega)).trans (x.block k hk)⟩
theorem Qk7 (base : Nat) (W:World):OwT base [] (.slice none 0 0) W :=
  ⟨fun i hi=>absurd hi (Nat.not_lt_zero _),World.ownsRow_nil W base 41 99,fun i hi=>absurd hi (Nat.not_lt_zero _),fun i j hi=>absurd hi (Nat.not_lt_zero _)⟩
theorem QlV (ts : List NdV) (n:NdV):fl (ts++[n])=fl ts++(cat (ndP n)).toList:=by unfold fl; rw [List.flatMap_append]; simp
theorem Qdc (ts : List NdV) (n:NdV) {j:Nat} (h:j<ts.length+1):ndi (ts++[n]) j=if j<ts.length then ndi ts j else n:=by
  rw [Qbp]
  split
  · rfl
  · rw [show j-ts.length=0 by omega]; rfl
theorem Qlt {P : Program} {ρ:Operand→Value} {o:Oper} {W:World} (b:Nat) (s x:Operand) (t:TypeId) (ho:o.op=.call { callee:=.builtin .append,args:=#[s,x],argTypes:=#[t,t] }) (ht:P.underlying t=some (.slice 41))
    (hi:(P.info? 41).map (fun i=>(i.zero.map (·.cells.size),i.size,i.bytes))=some (some 99,99,b)) (hb8:b≤1000) {base g:Nat} {v:Value} {ts:List NdV} {n:NdV} (hs:ρ s=v) (hx:ρ x=.slice (some ⟨g,0,none⟩) 1 1)
    (h:OwT base ts v W) (hn:NdIn base W n) (ha:∀ j,j<ts.length→∀ g,ob n=some g→ob (ndi ts j)≠some g) (hrow:W.heap[g]? = some (.cells (cat (ndP n)) 41)) (htl:ts.length≤1000000) (hbase:base≤W.heap.size) :
    ∃ v' W',(execOp ρ o).run P W=.ok (.value v') W'∧OwT base (ts++[n]) v' W'∧RowKit.Below base W W':=by
  obtain ⟨i,hq,z,hz,hzs,hi2,hi3⟩:∃ i,P.info? 41=some i∧∃ z,i.zero=some z∧z.cells.size=99∧i.size=99∧i.bytes=b:=by
    cases hq:P.info? 41 with
    | none=>rw [hq] at hi; cases hi
    | some i =>
      rw [hq] at hi
      simp only [Option.map_some,Option.some.injEq,Prod.mk.injEq] at hi
      obtain ⟨z,hz,hzs⟩:=Option.map_eq_some_iff.1 hi.1
      exact ⟨i,rfl,z,hz,hzs,hi.2.1,hi.2.2⟩
  have hsz:=Qbd n hn.1
  obtain ⟨v',W',hr,h2,h3,-,-⟩:=run_append_own_at (P:=P) W base t o.type 41 i z 99 b ht hq hz hi2 hi3 hzs (by decide) v ts.length _ h.row ⟨g,0,none⟩ 1 1 (cat (ndP n)).toList (by rw [Array.length_toList,hsz])
    (fun j u hu=>by
      rw [WideShapes.add_plain,Nat.zero_add]
      unfold World.cell?
      simp only [hrow]
      rw [Array.getElem?_toList] at hu
      rw [←hu]; rfl) (fun u hu=>(Array.all_eq_true'.1 (QhV n)) u (Array.mem_toList_iff.1 hu)) (by simp only [maxLen]; omega) (by
        have:(ts.length+1)*b≤1000001*1000:=Nat.mul_le_mul (by omega) hb8
        omega) hbase
  have ne:∀ m:NdV,NdIn base W m→NdIn base W' m:=fun m hm=>hm.keep fun k hk=>h3.block k (hm.lt hk) fun q=>by
    obtain ⟨cur,e1⟩:=QbD hm.2.2 hk
    obtain ⟨-,cur2,e2⟩:=h.rowBlock q.symm
    rw [e1] at e2
    simp at e2
  refine ⟨v',W',?_,⟨fun k hk=>?_,?_,fun k hk _=>?_,fun k j hk hj hkj _ _ g=>?_⟩,⟨h3.os,h3.tape,h3.output,h3.size,fun k hk=>h3.block k (qL hk hbase) fun q=>by have:=(h.rowBlock q.symm).1; omega⟩⟩
  · unfold execOp
    simp only [ho,resolve,invoke,builtin,Sem.run_bind,Sem.run_pure,Result.andThen_ok,List.map_toArray,List.map_cons,List.map_nil,hs,hx,hr]
  · rw [List.length_append,List.length_singleton] at hk
    rw [Qdc ts n hk]
    split
    · next h1=>exact h.ok k h1
    · exact hn.1
  · rw [List.length_append,List.length_singleton,QlV]
    exact h2
  · rw [List.length_append,List.length_singleton] at hk
    rw [Qdc ts n hk]
    split
    · next h1=>exact ne _ (h.nd k h1 (by simp))
    · exact ne n hn
  · rw [List.length_append,List.length_singleton] at hk hj
    rw [Qdc ts n hk,Qdc ts n hj]
    split
    · next h1 =>
      split
      · next h2=>exact h.ap k j h1 h2 hkj (by simp) (by simp) g
      · exact fun q1 q2=>ha k h1 g q2 q1
    · split
      · next h2=>exact ha j h2 g
      · omega
section
variable {ds : List Deferred} {P : Program} {ops : Array Oper} {Q : Exit → Act → World → Prop} {rest : List Oper} {o : Oper} {N : Nat} {L : Env} {W : World}
theorem Qgn (b : Nat) (s x:Operand) (t:TypeId) (ho:o.op=.call { callee:=.builtin .append,args:=#[s,x],argTypes:=#[t,t] }) (ht:P.underlying t=some (.slice 41))
    (hi:(P.info? 41).map (fun i=>(i.zero.map (·.cells.size),i.size,i.bytes))=some (some 99,99,b)) (hb8:b≤1000) (d:Nat) (hd:o.dst=some d) (hg:Qbe ops o N L=some true) {base g:Nat} {v:Value} {ts:List NdV} {n:NdV} (hs:Rely.look (envN N L) s=v) (hx:Rely.look (envN N L) x=.slice (some ⟨g,0,none⟩) 1 1)
    (h:OwT base ts v W) (hn:NdIn base W n) (ha:∀ j,j<ts.length→∀ g,ob n=some g→ob (ndi ts j)≠some g) (hrow:W.heap[g]? = some (.cells (cat (ndP n)) 41)) (htl:ts.length≤1000000) (hbase:base≤W.heap.size)
    (kk:∀ (u:Value) (W':World),OwT base (ts++[n]) u W'→RowKit.Below base W W'→WL P ops Q rest (Qat ds N ((d,u)::L)) W'):WL P ops Q (o::rest) (Qat ds N L) W:=by
  obtain ⟨v',W',h1,h2,h3⟩:=Qlt (ρ:=Rely.look (envN N L)) b s x t ho ht hi hb8 hs hx h hn ha hrow htl hbase
  exact Qco _ _ d hd hg h1 (kk v' W' h2 h3)
end
theorem Qhq {us ts:List NdV} {i:Nat} {n:NdV} (hl:us.length=i) (h:∀ j,j<i→(ndi us j).n=(ndi ts j).n) (hn:n.n=(ndi ts i).n):∀ j,j<i+1→(ndi (us++[n]) j).n=(ndi ts j).n:=fun j hj=>by
  rw [Qdc us n (by omega)]
  split
  · exact h j (by omega)
  · obtain rfl:j=i:=by omega
    exact hn
set_option maxRecDepth 100000 in
theorem Qgq (ts : List NdV) (a_t:Option Addr) (c_t B1:Nat) (w:World) (ht:TrAt B1 w a_t ts) (htl:ts.length≤100000) (hmt:∀ i,i<ts.length→(ndi ts i).n.ms.length≤1000):Calls Tryd.prog 21 #[.slice a_t ts.length c_t] w (Qbw w (fun v W=>∃ us,AsC us ts∧OwT w.heap.size us v W)):=by
 refine enter 26 [(0,.slice a_t ts.length c_t)] Tryd.func21 rfl rfl kj rfl ?_
 refine wp_seq_k fun K1 hK1=>?_
 refine Qab ?_
 refine Qaa (.slice none 0 0) 2 rfl kj kj ?_
 refine Qae ?_
 refine hK1 _ _ ?_
 refine wp_seq_k fun K2 hK2=>?_
 refine Qab ?_
 refine Qaa (.slice none 0 0) 3 rfl kj kj ?_
 refine Qae ?_
 refine hK2 _ _ ?_
 refine wp_seq_k fun K3 hK3=>?_
 refine wp_seq_k fun K4 hK4=>?_
 refine Qab ?_
 refine Qaa (.int .i64 0) 4 rfl kj kj ?_
 refine Qae ?_
 refine hK4 _ _ ?_
 refine wp_block ?_
 refine Qaz (fun (s1:Nat×Value×List NdV)=>[(0,.slice a_t ts.length c_t),(3,s1.2.1),(4,.int .i64 ((s1.1:Nat):Int))]) (fun (s1:Nat×Value×List NdV) W=>(s1.1≤ts.length)∧(s1.2.2.length=s1.1)∧(∀ j,j<s1.1→(ndi s1.2.2 j).n=(ndi ts j).n)∧(OwT w.heap.size s1.2.2 s1.2.1 W)∧(Below w.heap.size w W)∧(Ext w W)) (fun (s1:Nat×Value×List NdV)=>ts.length-s1.1) (0,(.slice none 0 0),[]) ⟨rfl,rfl,rfl,trivial⟩ ⟨(Nat.zero_le _),rfl,(fun j h=>absurd h (Nat.not_lt_zero j)),(Qk7 _ _),(RowKit.Below.refl _ w),(Rely.Ext.refl w)⟩ fun s1 X1 V1 hI1=>?_
 obtain ⟨i,u,us⟩:=s1
 obtain ⟨hi,hul,huc,hU,kk1,xx1⟩:=hI1
 replace hi:i≤ts.length:=hi
 replace hul:us.length=i:=hul
 replace huc:∀ j,j<i→(ndi us j).n=(ndi ts j).n:=huc
 replace hU:OwT w.heap.size us u V1:=hU
 replace kk1:Below w.heap.size w V1:=kk1
 replace xx1:Ext w V1:=xx1
 have l1:=kk1
 refine wp_seq_k fun K5 hK5=>?_
 refine wp_seq_k fun K6 hK6=>?_
 refine Qab ?_
 refine Qaa (.int .i64 ((i:Nat):Int)) 6 rfl kj kj ?_
 refine Qaa (.slice a_t ts.length c_t) 7 rfl kj kj ?_
 refine Qaa (.int .i64 ((ts.length:Nat):Int)) 8 rfl kj kj ?_
 refine Qaa (.bool (decide (((i:Nat):Int)<((ts.length:Nat):Int)))) 9 rfl kj kj ?_
 refine Qae ?_
 refine hK6 _ _ ?_
 refine Qas (t:=decide (((i:Nat):Int)<((ts.length:Nat):Int))) kj (fun c7=>?_) (fun c7=>?_)
 ·skip
  have hlt9:i<ts.length:=by have:=of_decide_eq_true c7; omega
  refine wp_skip ?_
  refine hK5 _ _ ?_
  refine wp_seq_k fun K8 hK8=>?_
  refine wp_block ?_
  refine wp_seq_k fun K9 hK9=>?_
  refine Qab ?_
  refine Qaa (.slice a_t ts.length c_t) 12 rfl kj kj ?_
  refine Qaa (.int .i64 ((i:Nat):Int)) 13 rfl kj kj ?_
  obtain ⟨gtT,otT,hat,hnts⟩:=TrAt.ext ht xx1
  have hnt:=hnts i (by omega)
  obtain ⟨nt,ent⟩:∃ z,z=ndi ts i:=⟨_,rfl⟩
  rw [←ent] at hnt
  have okt:=hnt.ok
  have rdt:=hnt.rd
  refine Qaa (.pointer (some ⟨gtT,otT+i*99,none⟩)) 14 rfl kj (Qao 23 _ _ .i64 i gtT otT ts.length c_t 41 99 a_t (hat (by omega)) rfl kj kj kj kj (by omega)) ?_
  refine Qaa (.agg (cat [#[.bool nt.n.us],#[.int .i64 nt.n.nm],ints .u8 (nt.n.key),ints .u8 (nt.n.sg),ints .u8 (nt.n.pa),#[.slice nt.a nt.n.ms.length nt.c]])) 15 rfl kj (QaH 41 _ gtT (otT+i*99) nt hnt rfl kj kj kj) ?_
  refine Qan (cat [#[.bool false],#[.int .i64 0],ints .u8 (List.replicate 32 0),ints .u8 (List.replicate 32 0),ints .u8 (List.replicate 32 0),#[.slice none 0 0]]) 41 5 rfl kj kj fun g10 W2 l10 e2 r10_2=>?_
  have x2:Ext w W2:=Ext.tr xx1 e2
  have b10:w.heap.size≤g10:=qT xx1.size l10
  refine Qa5 g10 _ (cat [#[.bool nt.n.us],#[.int .i64 nt.n.nm],ints .u8 (nt.n.key),ints .u8 (nt.n.sg),ints .u8 (nt.n.pa),#[.slice nt.a nt.n.ms.length nt.c]]) 41 r10_2 rfl kj (QaG 41 _ _ g10 41 _ _ r10_2 rfl kj kj (isz (n:=99) kj (by rw [Qac,Qac,Qac,Qac,Qac,Qac]; simp only [qS,cat,((Qaf _ _).trans okt.gl),((Qaf _ _).trans okt.kl),((Qaf _ _).trans okt.pl)]; rfl)) (eqsz (n:=99) (by rw [Qac,Qac,Qac,Qac,Qac,Qac]; simp only [qS,cat,((Qaf _ _).trans (qZ (n:=32)))]; rfl) (by rw [Qac,Qac,Qac,Qac,Qac,Qac]; simp only [qS,cat,((Qaf _ _).trans okt.gl),((Qaf _ _).trans okt.kl),((Qaf _ _).trans okt.pl)]; rfl)) (Qb0 _ (by intro a ha; simp only [List.mem_cons,List.not_mem_nil,or_false] at ha; rcases ha with rfl | rfl | rfl | rfl | rfl | rfl; exact (Qa3 _ rfl); exact (Qa3 _ rfl); exact (Qa4 _ _); exact (Qa4 _ _); exact (Qa4 _ _); exact (Qa3 _ rfl)))) fun W3 p3 r10_3=>?_
  have x3:Ext w W3:=Puts.ext p3 x2 b10
  refine Qae ?_
  refine hK9 _ _ ?_
  refine wp_seq_k fun K11 hK11=>?_
  refine Qab ?_
  refine Qbu (ints .i64 ([])) 3 0 16 rfl kj kj fun g12 W4 l12 e4 r12_4=>?_
  have x4:Ext w W4:=Ext.tr x3 e4
  have b12:w.heap.size≤g12:=qT x3.size l12
  refine Qaa (.pointer (some ⟨g10,98,none⟩)) 17 rfl kj kj ?_
  have r10_4:=(Qah r10_3 e4)
  refine Qaa (.slice nt.a nt.n.ms.length nt.c) 18 rfl kj (Qag 36 _ g10 98 41 _ (.slice nt.a nt.n.ms.length nt.c) _ r10_4 rfl kj (Qal [#[.bool nt.n.us],#[.int .i64 nt.n.nm],ints .u8 (nt.n.key),ints .u8 (nt.n.sg),ints .u8 (nt.n.pa)] [#[.slice nt.a nt.n.ms.length nt.c]] [] 98 (by rw [Qac,Qac,Qac,Qac,Qac]; simp only [qS,cat,((Qaf _ _).trans okt.gl),((Qaf _ _).trans okt.kl),((Qaf _ _).trans okt.pl)]; rfl) 0 _ rfl) kj) ?_
  have y1_2:Ext V1 W2:=(Rely.Ext.trans (Rely.Ext.refl V1) e2)
  have y1_3:Ext V1 W3:=(Puts.ext p3 y1_2 l10)
  have y1_4:Ext V1 W4:=(Rely.Ext.trans y1_3 e4)
  have y3_4:Ext W3 W4:=(Rely.Ext.trans (Rely.Ext.refl W3) e4)
  refine Qbz (k:=.i64) (T:=3) (xs:=[]) (ys:=nt.n.ms) (V:=W3) 8 (.tmp 16) (.tmp 18) 36 rfl kj kj (by decide) 19 rfl kj kj kj (Qgt (xs:=[]) rfl l12 r12_4 (by decide)) (RdK.here (RdK.ext rdt y1_4)) (by have h9:=hmt i (by omega); rw [←ent] at h9; simp; omega) y3_4 fun zq W5 f13 y5 l5=>?_
  have x5:Ext w W5:=Ext.low x4 l5 x3.size
  have hq5:OwnN .i64 3 W3.heap.size nt.n.ms zq W5:=f13
  obtain ⟨a5,c5,hz5,-⟩:=id (OwnN.rd hq5)
  subst hz5
  refine Qaa (.pointer (some ⟨g10,98,none⟩)) 20 rfl kj kj ?_
  have r10_5:=(Qie l5 r10_4 (QaC r10_3))
  refine Qa5 g10 _ (cat [#[.bool nt.n.us],#[.int .i64 nt.n.nm],ints .u8 (nt.n.key),ints .u8 (nt.n.sg),ints .u8 (nt.n.pa),#[.slice a5 nt.n.ms.length c5]]) 41 r10_5 rfl kj (Qe1 36 _ _ g10 98 41 [#[.bool nt.n.us],#[.int .i64 nt.n.nm],ints .u8 (nt.n.key),ints .u8 (nt.n.sg),ints .u8 (nt.n.pa)] [] _ (.slice a5 nt.n.ms.length c5) r10_5 rfl kj kj kj (by rw [Qac,Qac,Qac,Qac,Qac]; simp only [qS,cat,((Qaf _ _).trans okt.gl),((Qaf _ _).trans okt.kl),((Qaf _ _).trans okt.pl)]; rfl) rfl rfl) fun W6 p6 r10_6=>?_
  have x6:Ext w W6:=Puts.ext p6 x5 b10
  refine Qae ?_
  refine hK11 _ _ ?_
  refine Qab ?_
  refine Qaa (u) 21 rfl kj kj ?_
  refine Qaa (.agg (cat [#[.bool nt.n.us],#[.int .i64 nt.n.nm],ints .u8 (nt.n.key),ints .u8 (nt.n.sg),ints .u8 (nt.n.pa),#[.slice a5 nt.n.ms.length c5]])) 22 rfl kj (Qau 41 _ g10 41 _ _ r10_6 rfl kj kj (isz (n:=99) kj (by rw [Qac,Qac,Qac,Qac,Qac,Qac]; simp only [qS,cat,((Qaf _ _).trans okt.gl),((Qaf _ _).trans okt.kl),((Qaf _ _).trans okt.pl)]; rfl))) ?_
  refine Qfs (cat (ndP (⟨nt.n,a5,c5⟩:NdV))) 41 1 1 23 rfl kj (Qh8 23 41 99 _ (.agg (cat (ndP (⟨nt.n,a5,c5⟩:NdV)))) rfl kj kj kj kj (Qbd (⟨nt.n,a5,c5⟩:NdV) okt) (by decide) (by decide)) fun gz W7 lz e7 rz=>?_
  have x7:Ext w W7:=Ext.tr x6 e7
  have f14_6:=(hq5.puts p6 (QhW hq5 (QaC r10_3)))
  have f15_7:=(f14_6.ext e7)
  have y1_5:Ext V1 W5:=(Ext.low y1_4 l5 y1_3.size)
  have y1_6:Ext V1 W6:=(Puts.ext p6 y1_5 l10)
  have y1_7:Ext V1 W7:=(Rely.Ext.trans y1_6 e7)
  have hn5:NdIn w.heap.size W7 (⟨nt.n,a5,c5⟩:NdV):=⟨okt,ent▸hmt i (by omega),OwnN.base (x3.size) f15_7⟩
  refine Qgn 136 (.tmp 21) (.tmp 23) 23 rfl kj kj (by decide) 24 rfl kj kj kj (OwH.ext hU y1_7) hn5 (fun j hj g h1 h2=>by have h3:=OwnN.ge hq5 h1; have h4:=(hU.nd j (by omega) (by simp)).lt h2; have h5:=(y1_3).size; omega) rz (by omega) (x7).size fun u2 W8 hU2 l8=>?_
  have x8:Ext w W8:=Ext.low x7 l8 (Rely.Ext.refl w).size
  refine Qaa (u2) 3 rfl kj kj ?_
  refine Qae ?_
  refine hK8 _ _ ?_
  refine Qab ?_
  refine Qaa (.int .i64 ((i:Nat):Int)) 10 rfl kj kj ?_
  refine Qaa (.int .i64 ((i+1:Nat):Int)) 11 rfl kj (Qai (u:=.int .i64 (IntKind.i64.wrap (((i:Nat):Int)+1))) kj (congrArg (Value.int .i64) (i64n _ _ (by omega) (by omega)))) ?_
  refine Qaa (.int .i64 ((i+1:Nat):Int)) 4 rfl kj kj ?_
  refine Qae ?_
  have y0_1:Ext w V1:=(Ext.low (Rely.Ext.refl w) l1 (Rely.Ext.refl w).size)
  have y0_2:Ext w W2:=(Rely.Ext.trans y0_1 e2)
  have y0_3:Ext w W3:=(Puts.ext p3 y0_2 (qT y0_1.size l10))
  have y0_4:Ext w W4:=(Rely.Ext.trans y0_3 e4)
  have y0_5:Ext w W5:=(Ext.low y0_4 l5 y0_3.size)
  have y0_6:Ext w W6:=(Puts.ext p6 y0_5 (qT y0_1.size l10))
  repeat (first | with_reducible refine goX1 ?_ | with_reducible refine goX2 ?_ | with_reducible refine goX3 ?_)
  exact Qaq ((i+1),u2,(us++[(⟨nt.n,a5,c5⟩:NdV)])) ⟨rfl,rfl,rfl,trivial⟩ ⟨(by omega),(by rw [List.length_append,hul]; rfl),(Qhq hul huc (show nt.n=(ndi ts i).n by rw [ent])),hU2,(RowKit.Below.trans (RowKit.Below.trans (Qe2 p6 (RowKit.Below.trans (RowKit.Below.trans (Qe2 p3 (RowKit.Below.trans l1 (RowKit.Below.mono e2 y0_1.size)) b10) (RowKit.Below.mono e4 y0_3.size)) (RowKit.Below.mono l5 y0_3.size)) b10) (RowKit.Below.mono e7 y0_6.size)) l8),x8⟩ (by show ts.length-(i+1)<ts.length-i; omega)
 ·skip
  have heq9:i=ts.length:=by have:=of_decide_eq_false c7; omega
  refine wp_exit ?_
  refine hK3 _ _ ?_
  refine wp_seq_k fun K16 hK16=>?_
  refine Qab ?_
  refine Qaa (u) 25 rfl kj kj ?_
  refine Qaa (u) 2 rfl kj kj ?_
  refine Qae ?_
  refine hK16 _ _ ?_
  refine wp_ret ?_
  repeat (first | with_reducible refine goR1 ?_ | with_reducible refine goR2 ?_)
  exact (show bodyPost _ _ _ .ret _ _ from ret1 (u) rfl (Qam kj) ⟨_,rfl,xx1,us,⟨by omega,fun j hj=>huc j (by omega)⟩,hU⟩)
end Go.Proofs.YtcmaolmofgmkhaaDoor.Te
end
section
namespace Go.Proofs.YtcmaolmofgmkhaaDoor.Seat
open Go Go.RowKit
open Rely Auto Own
theorem Qgo (x n:Int) (W:World):Calls Tryd.prog 73 #[.int .i64 x,.int .i64 n] W (Ret W (.int .i64 (par x n))):=quiet (rparent x n W)
def upL (x n:Int) (k:Nat):List Int:=(List.range k).map (upn x n)
theorem QiK (x n:Int) (k:Nat):upL x n (k+1)=upL x n k++[upn x n k]:=by simp [upL,List.range_succ]
theorem QcM (x n:Int) (k:Nat):(upL x n k).length=k:=by simp [upL]
theorem QfC {x n:Int} {K k:Nat} (h:k<K):nth (upL x n K) k=upn x n k:=by simp [nth,upL,h]
theorem Qhi (x n:Int):∃ K,K≤6∧upn x n K<0∧∀ i,i<K→0≤upn x n i:=by
  have go:∀ m,m≤6→(∀ i,i<6-m→0≤upn x n i)→∃ K,K≤6∧upn x n K<0∧∀ i,i<K→0≤upn x n i:=by
    intro m
    induction m with
    | zero =>
      intro _ h
      refine ⟨6,qR _,?_,fun i hi=>h i (by omega)⟩
      rcases Int.lt_or_le (upn x n 6) 0 with h6 | h6
      · exact h6
      · have:=Qey h6; omega
    | succ m ih =>
      intro hm h
      rcases Int.lt_or_le (upn x n (6-(m+1))) 0 with h6 | h6
      · exact ⟨6-(m+1),by omega,h6,h⟩
      · exact ih (by omega) (fun i hi=>by
          rcases Nat.lt_or_ge i (6-(m+1)) with h1 | h1
          · exact h i h1
          · rw [show i=6-(m+1) by omega]; exact h6)
  exact go 6 (by omega) (fun i hi=>by omega)
theorem QhD (x n:Int) (K:Nat) (hK:K≤6) (hneg:upn x n K<0) (hall:∀ i,i<K→0≤upn x n i) (w:World):Calls Tryd.prog 54 #[.int .i64 x,.int .i64 n] w (Qbw w (OwnN .i64 3 w.heap.size (upL x n K))):=by
 refine enter 20 [(0,.int .i64 x),(1,.int .i64 n)] Tryd.func54 rfl rfl (by kernel_rfl) rfl ?_
 refine wp_seq_k fun K1 hK1=>?_
 refine Qab ?_
 refine Qaa (.slice none 0 0) 4 rfl (by kernel_rfl) (by kernel_rfl) ?_
 refine Qae ?_
 refine hK1 _ _ ?_
 refine wp_seq_k fun K2 hK2=>?_
 refine Qab ?_
 refine Qaa (.slice none 0 0) 5 rfl (by kernel_rfl) (by kernel_rfl) ?_
 refine Qae ?_
 refine hK2 _ _ ?_
 refine wp_seq_k fun K3 hK3=>?_
 refine wp_seq_k fun K4 hK4=>?_
 refine Qab ?_
 refine Qaa (.int .i64 x) 7 rfl (by kernel_rfl) (by kernel_rfl) ?_
 refine Qaa (.int .i64 n) 8 rfl (by kernel_rfl) (by kernel_rfl) ?_
 refine Qaj (.int .i64 (upn x n 0)) 73 #[.int .i64 x,.int .i64 n] 9 rfl (by kernel_rfl) (by kernel_rfl) ((Qgo x n) _) fun W1 e1=>?_
 have x1:Ext w W1:=Ext.tr (Rely.Ext.refl w) e1
 refine Qaa (.int .i64 (upn x n 0)) 6 rfl (by kernel_rfl) (by kernel_rfl) ?_
 refine Qae ?_
 refine hK4 _ _ ?_
 refine wp_block ?_
 refine Qaz (fun (s1:Nat×Value)=>[(1,.int .i64 n),(5,s1.2),(6,.int .i64 (upn x n s1.1))]) (fun (s1:Nat×Value) W=>(s1.1≤K)∧(OwnN .i64 3 W1.heap.size (upL x n s1.1) s1.2 W)∧(Ext W1 W)∧(Ext w W)) (fun (s1:Nat×Value)=>K-s1.1) (0,(.slice none 0 0)) ⟨rfl,rfl,rfl,trivial⟩ ⟨(Nat.zero_le _),(QcD _ _ _ _),(Rely.Ext.refl W1),x1⟩ fun s1 X1 V1 hI1=>?_
 obtain ⟨k,u⟩:=s1
 obtain ⟨hkk,hu,kk1,xx1⟩:=hI1
 replace hkk:k≤K:=hkk
 replace hu:OwnN .i64 3 W1.heap.size (upL x n k) u V1:=hu
 replace kk1:Ext W1 V1:=kk1
 replace xx1:Ext w V1:=xx1
 have e2:=kk1
 refine wp_seq_k fun K5 hK5=>?_
 refine wp_seq_k fun K6 hK6=>?_
 refine Qab ?_
 refine Qaa (.int .i64 (upn x n k)) 10 rfl (by kernel_rfl) (by kernel_rfl) ?_
 refine Qaa (.bool (decide ((upn x n k)≥0))) 11 rfl (by kernel_rfl) (by kernel_rfl) ?_
 refine Qae ?_
 refine hK6 _ _ ?_
 refine Qas (t:=decide ((upn x n k)≥0)) (by kernel_rfl) (fun c7=>?_) (fun c7=>?_)
 ·skip
  have h0:0≤upn x n k:=by have:=of_decide_eq_true c7; omega
  have hkK:k<K:=by
   rcases Nat.lt_or_ge k K with h | h
   ·exact h
   ·rw [show k=K by omega] at h0; omega
  refine wp_skip ?_
  refine hK5 _ _ ?_
  refine wp_seq_k fun K8 hK8=>?_
  refine wp_block ?_
  refine Qab ?_
  refine Qaa (u) 15 rfl (by kernel_rfl) (by kernel_rfl) ?_
  refine Qaa (.int .i64 (upn x n k)) 16 rfl (by kernel_rfl) (by kernel_rfl) ?_
  refine Qbu (ints .i64 ([(upn x n k)])) 3 1 17 rfl (by kernel_rfl) (by kernel_rfl) fun g9 W3 l9 e3 r9_3=>?_
  have x3:Ext w W3:=Ext.tr xx1 e3
  have b9:w.heap.size≤g9:=qT xx1.size l9
  have f10_3:=(hu.ext e3)
  have y1_3:Ext W1 W3:=(Rely.Ext.trans e2 e3)
  refine Qbz (k:=.i64) (T:=3) (xs:=upL x n k) (ys:=[upn x n k]) (V:=W1) 8 (.tmp 15) (.tmp 17) 36 rfl (by kernel_rfl) (by kernel_rfl) (by decide) 18 rfl (by kernel_rfl) (by kernel_rfl) (by kernel_rfl) f10_3 (QcY (xs:=[(upn x n k)]) (n:=1) rfl r9_3 (QaC r9_3) (show 1≤maxLen from by decide)) (by rw [QcM]; show k+1≤1000000000; omega) y1_3 fun u2 W4 f11 y4 l4=>?_
  have x4:Ext w W4:=Ext.low x3 l4 x1.size
  refine Qaa (u2) 5 rfl (by kernel_rfl) (by kernel_rfl) ?_
  refine Qae ?_
  refine hK8 _ _ ?_
  refine Qab ?_
  refine Qaa (.int .i64 (upn x n k)) 12 rfl (by kernel_rfl) (by kernel_rfl) ?_
  refine Qaa (.int .i64 n) 13 rfl (by kernel_rfl) (by kernel_rfl) ?_
  refine Qaj (.int .i64 (upn x n (k+1))) 73 #[.int .i64 (upn x n k),.int .i64 n] 14 rfl (by kernel_rfl) (by kernel_rfl) ((Qgo (upn x n k) n) _) fun W5 e5=>?_
  have x5:Ext w W5:=Ext.tr x4 e5
  refine Qaa (.int .i64 (upn x n (k+1))) 6 rfl (by kernel_rfl) (by kernel_rfl) ?_
  refine Qae ?_
  have f12_5:=(f11.ext e5)
  have y1_5:Ext W1 W5:=(Rely.Ext.trans y4 e5)
  repeat (first | with_reducible refine goX1 ?_ | with_reducible refine goX2 ?_ | with_reducible refine goX3 ?_)
  exact Qaq ((k+1),u2) ⟨rfl,rfl,rfl,trivial⟩ ⟨(by omega),(by rw [QiK]; exact f12_5),y1_5,x5⟩ (by show K-(k+1)<K-k; omega)
 ·skip
  have h0:upn x n k<0:=by have:=of_decide_eq_false c7; omega
  have hkK:k=K:=by
   rcases Nat.lt_or_ge k K with h | h
   ·have:=hall k h; omega
   ·omega
  refine wp_exit ?_
  refine hK3 _ _ ?_
  refine wp_seq_k fun K13 hK13=>?_
  refine Qab ?_
  refine Qaa (u) 19 rfl (by kernel_rfl) (by kernel_rfl) ?_
  refine Qaa (u) 4 rfl (by kernel_rfl) (by kernel_rfl) ?_
  refine Qae ?_
  refine hK13 _ _ ?_
  refine wp_ret ?_
  repeat (first | with_reducible refine goR1 ?_ | with_reducible refine goR2 ?_)
  exact (show bodyPost _ _ _ .ret _ _ from ret1 (u) rfl (Qam (by kernel_rfl)) ⟨u,rfl,xx1,by rw [←hkK]; exact OwnN.base x1.size hu⟩)
end Go.Proofs.YtcmaolmofgmkhaaDoor.Seat
end
section
namespace Go.Proofs.YtcmaolmofgmkhaaDoor.Te
open Go Go.RowKit
open Rely Auto Own Seat Sha
theorem rdE {k : IntKind} {B:Nat} {v:Value} {w W:World} (h:RdK k B [] v w):RdK k B [] v W:=by
  obtain ⟨a,cap,e,h2,h3,h4,-⟩:=h
  exact ⟨a,cap,e,h2,h3,h4,.inl rfl⟩
theorem OwH.setE {base g c i M:Nat} {ts:List NdV} {n:NdV} {W W':World} {cur:Array Value} (hM:ts.length=M) (t:OwT base ts (.slice (some ⟨g,0,none⟩) M c) W) (hi:i<M) (r:W.heap[g]? = some (.cells cur 41)) (p:Puts W g W') (r':W'.heap[g]? = some (.cells (splice cur (i*99) (cat (ndP n)).toList) 41)) (ok:NdOk n.n) :
    OwH base (ts.set i n) (.slice (some ⟨g,0,none⟩) M c) W' (some i):=by
  subst hM
  obtain ⟨g',c2,cur2,e,q2,q3,q4,q5,q6,q7⟩:=t.opens (by omega)
  simp only [Value.slice.injEq,Option.some.injEq,Addr.mk.injEq] at e
  obtain ⟨⟨rfl,-⟩,-,rfl⟩:=e
  rw [r] at q3
  simp only [Option.some.injEq,Obj.cells.injEq,and_true] at q3
  subst q3
  have kp:∀ m:NdV,NdIn base W m→NdIn base W' m:=fun m hm=>hm.keep fun k hk=>p.2.2.2.2 k fun e=>by
    obtain ⟨cur2,r2⟩:=QbD hm.2.2 hk
    rw [e,r] at r2
    simp at r2
  have:=OwH.made (h:=some i) (ts:=ts.set i n) (c:=c) q2 r' ((QaK _ _ _).trans q4) (by rw [List.length_set]; exact q5) q6 (QfH ok hi (by omega) q7) (fun k hk=>by
    rw [List.length_set] at hk
    rw [Qa8 n hi]
    split
    · exact ok
    · exact t.ok k hk) (fun k hk hki=>by
    rw [List.length_set] at hk
    rw [Qa8 n hi,if_neg (fun e=>hki (by rw [e]))]
    exact kp _ (t.nd k hk (by simp))) (QeC hi t.ap (fun _ _ _=>by simp) fun q=>absurd rfl q)
  rwa [List.length_set] at this
theorem OwH.setZ {base g c i j M:Nat} {ts:List NdV} {W W':World} {cur:Array Value} (hM:ts.length=M) (t:OwH base ts (.slice (some ⟨g,0,none⟩) M c) W (some i)) (hj:j<M) (hji:j≠i) (r:W.heap[g]? = some (.cells cur 41)) (p:Puts W g W') (r':W'.heap[g]? = some (.cells (splice cur (j*99) (cat (ndP zn)).toList) 41)) :
    OwH base (ts.set j zn) (.slice (some ⟨g,0,none⟩) M c) W' (some i):=by
  subst hM
  obtain ⟨g',c2,cur2,e,q2,q3,q4,q5,q6,q7⟩:=t.opens (by omega)
  simp only [Value.slice.injEq,Option.some.injEq,Addr.mk.injEq] at e
  obtain ⟨⟨rfl,-⟩,-,rfl⟩:=e
  rw [r] at q3
  simp only [Option.some.injEq,Obj.cells.injEq,and_true] at q3
  subst q3
  have kp:∀ m:NdV,NdIn base W m→NdIn base W' m:=fun m hm=>hm.keep fun k hk=>p.2.2.2.2 k fun e=>by
    obtain ⟨cur2,r2⟩:=QbD hm.2.2 hk
    rw [e,r] at r2
    simp at r2
  have:=OwH.made (h:=some i) (ts:=ts.set j zn) (c:=c) q2 r' ((QaK _ _ _).trans q4) (by rw [List.length_set]; exact q5) q6 (QfH Qdk hj (by omega) q7) (fun k hk=>by
    rw [List.length_set] at hk
    rw [Qa8 zn hj]
    split
    · exact Qdk
    · exact t.ok k hk) (fun k hk hki=>by
    rw [List.length_set] at hk
    rw [Qa8 zn hj]
    split
    · exact QgH _ _
    · exact kp _ (t.nd k hk hki)) (QeC hj t.ap (fun _ _ q=>q) fun _ k _ _ _ x h1=>by rw [Qjj] at h1; cases h1)
  rwa [List.length_set] at this
section
variable {ds : List Deferred} {P : Program} {ops : Array Oper} {Q : Exit → Act → World → Prop} {rest : List Oper} {o : Oper} {N : Nat} {L : Env} {W : World}
theorem QeL (ty : TypeId) (x y:Operand) (g i c:Nat) {M:Nat} {base:Nat} {ts:List NdV} {n:NdV} (hM:ts.length=M) (t:OwT base ts (.slice (some ⟨g,0,none⟩) M c) W) (hil:i<M) (ok:NdOk n.n)
    (ho:o.op=.store ty x y) (hx:Rely.look (envN N L) x=.pointer (some ⟨g,0+i*99,none⟩)) (hy:Rely.look (envN N L) y=.agg (cat (ndP n))) (hi:(P.info? ty).map (·.size)=some 99) (hd:o.dst=none) (hw:Qbe ops o N L=some true)
    (kk:∀ W',Puts W g W'→OwH base (ts.set i n) (.slice (some ⟨g,0,none⟩) M c) W' (some i)→WL P ops Q rest (Qat ds N L) W'):WL P ops Q (o::rest) (Qat ds N L) W:=by
  obtain ⟨g',c',cur,e,q2,q3,q4,q5,q6,q7⟩:=t.opens (by omega)
  simp only [Value.slice.injEq,Option.some.injEq,Addr.mk.injEq] at e
  obtain ⟨⟨rfl,-⟩,-,rfl⟩:=e
  exact Qa5 g cur _ _ q3 hd hw (QdI ty x y g i q3 (by omega) ok ho hx hy hi) fun W' p r'=>kk W' p (t.setE hM hil q3 p r' ok)
theorem QiT (ty : TypeId) (x y:Operand) (g i j c:Nat) {M:Nat} {base:Nat} {ts:List NdV} (hM:ts.length=M) (t:OwH base ts (.slice (some ⟨g,0,none⟩) M c) W (some i)) (hj:j<M) (hji:j≠i)
    (ho:o.op=.store ty x y) (hx:Rely.look (envN N L) x=.pointer (some ⟨g,0+j*99,none⟩)) (hy:Rely.look (envN N L) y=.agg (cat (ndP zn))) (hi:(P.info? ty).map (·.size)=some 99) (hd:o.dst=none) (hw:Qbe ops o N L=some true)
    (kk:∀ W',Puts W g W'→OwH base (ts.set j zn) (.slice (some ⟨g,0,none⟩) M c) W' (some i)→WL P ops Q rest (Qat ds N L) W'):WL P ops Q (o::rest) (Qat ds N L) W:=by
  obtain ⟨g',c',cur,e,q2,q3,q4,q5,q6,q7⟩:=t.opens (by omega)
  simp only [Value.slice.injEq,Option.some.injEq,Addr.mk.injEq] at e
  obtain ⟨⟨rfl,-⟩,-,rfl⟩:=e
  exact Qa5 g cur _ _ q3 hd hw (QdI ty x y g j q3 (by omega) Qdk ho hx hy hi) fun W' p r'=>kk W' p (t.setZ hM hj hji q3 p r')
end
theorem OwH.frE {base i B:Nat} {ts:List NdV} {a:Option Addr} {c:Nat} {W:World} (t:OwH base ts (.slice a ts.length c) W (some i)) (hms:(ndi ts i).n.ms=[]) (hr:RdK .i64 B [] (.slice (ndi ts i).a 0 (ndi ts i).c) W):FrT base ts (.slice a ts.length c) W:=by
  have rd:∀ k,k<ts.length→RdK .i64 W.heap.size (ndi ts k).n.ms (.slice (ndi ts k).a (ndi ts k).n.ms.length (ndi ts k).c) W:=fun k hk=>by
    by_cases e:k=i
    · subst e; rw [hms]; exact RdK.here hr
    · exact RdK.here (OwnN.rd (t.nd k hk (by simpa using e)).2.2)
  refine ⟨a,c,rfl,?_,⟨fun g o m h0 e=>?_,fun k hk hne g o m e=>?_⟩,fun k hk=>?_⟩
  · by_cases h0:0<ts.length
    · obtain ⟨g,cap,cur,e,q2,q3,q4,q5,q6,q7⟩:=t.opens h0
      simp only [Value.slice.injEq] at e
      obtain ⟨rfl,-,rfl⟩:=e
      refine ⟨g,0,fun _=>rfl,fun k hk=>⟨QaC q3,QaC q3,fun j u hu=>?_,rd k hk,t.ok k hk⟩⟩
      have hj:j<99:=by have:=(Array.getElem?_eq_some_iff.1 hu).1; rw [Qbd _ (t.ok k hk)] at this; exact this
      rw [Nat.zero_add,QbR q3,q7 k hk j hj,hu]
    · exact ⟨0,0,fun h1=>absurd h1 h0,fun k hk=>absurd hk (by omega)⟩
  · obtain ⟨g',cap,cur,e1,q2,q3,-⟩:=t.opens h0
    simp only [Value.slice.injEq] at e1
    rw [e] at e1
    have:=e1.1
    simp only [Option.some.injEq,Addr.mk.injEq] at this
    rw [this.1]; exact q2
  · have e2:k≠i:=fun q=>hne (q▸hms)
    obtain ⟨b,cc,cu,e1,e2,-⟩:=Qdb (t.nd k hk (by simpa using e2)).2.2 (by rcases hz:(ndi ts k).n.ms with _ | ⟨x,r⟩; exact absurd hz hne; simp)
    unfold slv at e1
    rw [e] at e1
    simp only [Value.slice.injEq,Option.some.injEq,Addr.mk.injEq] at e1
    rw [e1.1.1]; exact e2
  · by_cases e:k=i
    · subst e; rw [hms]; exact Nat.zero_le _
    · exact (t.nd k hk (by simpa using e)).2.1
theorem Qec {y n:Int} {K:Nat} (hK:K≤6) (hneg:upn y n K<0) (hall:∀ i,i<K→0≤upn y n i):pthL y n=List.range K:=by
  have hm:∀ d,upn y n (K+d)<0:=fun d=>by
    induction d with
    | zero=>exact hneg
    | succ d ih =>
      show par (upn y n (K+d)) n<0
      rw [Qc2 (by unfold Qax; rw [decide_eq_false (by omega)]; simp)]; decide
  unfold pthL
  rw [show 6=K+(6-K) by omega,List.range_add,List.filter_append]
  rw [List.filter_eq_self.2 fun k hk=>decide_eq_true (hall k (List.mem_range.1 hk)),List.filter_eq_nil_iff.2 fun k hk=>?_,List.append_nil]
  obtain ⟨d,-,rfl⟩:=List.mem_map.1 hk
  have:=hm d
  simp; omega
set_option maxRecDepth 100000 in
theorem QfL (ts : List NdV) (a_t:Option Addr) (c_t B1:Nat) (w:World) (ht:TrAt B1 w a_t ts) (htl:ts.length≤100000) (hmt:∀ i,i<ts.length→(ndi ts i).n.ms.length≤1000) (L:Nat) (hL:leaves ((ts.length:Nat):Int)=((L:Nat):Int)) (hL3:L≤32) (hlen:ts.length+1=2*L) (hTr:Qaw ((L:Nat):Int)=true) (m:Nat) (hm:m<L) (nd:NdV) (hok:NdOk nd.n) (hms:nd.n.ms=[]) (B2:Nat) (hr0:RdK .i64 B2 [] (.slice nd.a 0 nd.c) w):Calls Tryd.prog 58 #[.slice a_t ts.length c_t,.int .i64 ((m:Nat):Int),.agg (cat [#[.bool nd.n.us],#[.int .i64 nd.n.nm],ints .u8 (nd.n.key),ints .u8 (nd.n.sg),ints .u8 (nd.n.pa),#[.slice nd.a nd.n.ms.length nd.c]])] w (Qbw w (fun v W=>∃ us,AsC us ts∧FrT w.heap.size (blkT (us.set (2*m) nd) (2*((m:Nat):Int)) ((L:Nat):Int)) v W∧(blkT (us.set (2*m) nd) (2*((m:Nat):Int)) ((L:Nat):Int)).length=ts.length∧∃ a c,v=.slice a ts.length c∧ts.length≤c)):=by
 obtain ⟨K,hK,hneg,hall⟩:=Qhi (2*((m:Nat):Int)) ((L:Nat):Int)
 refine enter 37 [(0,.slice a_t ts.length c_t),(1,.int .i64 ((m:Nat):Int)),(2,.agg (cat [#[.bool nd.n.us],#[.int .i64 nd.n.nm],ints .u8 (nd.n.key),ints .u8 (nd.n.sg),ints .u8 (nd.n.pa),#[.slice nd.a nd.n.ms.length nd.c]]))] Tryd.func58 rfl rfl kj rfl ?_
 refine wp_seq_k fun K1 hK1=>?_
 refine Qab ?_
 refine Qan (cat [#[.bool nd.n.us],#[.int .i64 nd.n.nm],ints .u8 (nd.n.key),ints .u8 (nd.n.sg),ints .u8 (nd.n.pa),#[.slice nd.a nd.n.ms.length nd.c]]) 41 5 rfl kj kj fun g2 W1 l2 e1 r2_1=>?_
 have x1:Ext w W1:=Ext.tr (Rely.Ext.refl w) e1
 have b2:w.heap.size≤g2:=qT (Rely.Ext.refl w).size l2
 refine Qaa (.slice none 0 0) 6 rfl kj kj ?_
 refine Qae ?_
 refine hK1 _ _ ?_
 refine wp_seq_k fun K3 hK3=>?_
 refine Qab ?_
 refine Qaa (.slice a_t ts.length c_t) 10 rfl kj kj ?_
 refine Qa0 (fun v W'=>(fun v W9=>∃ us,AsC us ts∧OwT W1.heap.size us v W9) v W'∧Ext W1 W') 21 #[.slice a_t ts.length c_t] 11 rfl kj kj ((Qgq ts a_t _ _ _ (TrAt.ext ht x1) htl hmt).mono (by rintro e w' ⟨v,rfl,e1,hv⟩; exact ⟨v,rfl,hv,e1⟩)) fun vv4 W2 hh4=>?_
 obtain ⟨hv4,e2⟩:=hh4
 have x2:Ext w W2:=Ext.tr x1 e2
 obtain ⟨us,has,hU⟩:=hv4
 obtain ⟨gO,cO,cuO,hvO,lgO,rO2,-,hcO,-⟩:=hU.opens (by have:=has.1; omega)
 subst hvO
 have hM:us.length=ts.length:=has.1
 rw [hM] at hU hcO ⊢
 have bgO:w.heap.size≤gO:=qT x1.size lgO
 refine Qaa (.slice (some ⟨gO,0,none⟩) ts.length cO) 7 rfl kj kj ?_
 refine Qae ?_
 refine hK3 _ _ ?_
 refine wp_seq_k fun K6 hK6=>?_
 refine Qab ?_
 refine Qaa (.slice (some ⟨gO,0,none⟩) ts.length cO) 12 rfl kj kj ?_
 refine Qaa (.int .i64 ((m:Nat):Int)) 13 rfl kj kj ?_
 refine Qaa (.int .i64 (((2*m:Nat):Int))) 14 rfl kj (Qai (u:=.int .i64 (IntKind.i64.wrap (2*((m:Nat):Int)))) kj (congrArg (Value.int .i64) ((IntWalk.i64_in _ (by omega)).trans (by omega)))) ?_
 have r2_2:=(Qah r2_1 e2)
 refine Qaa (.agg (cat [#[.bool nd.n.us],#[.int .i64 nd.n.nm],ints .u8 (nd.n.key),ints .u8 (nd.n.sg),ints .u8 (nd.n.pa),#[.slice nd.a nd.n.ms.length nd.c]])) 15 rfl kj (Qau 41 _ g2 41 _ _ r2_2 rfl kj kj (isz (n:=99) kj (by rw [Qac,Qac,Qac,Qac,Qac,Qac]; simp only [qS,cat,((Qaf _ _).trans hok.gl),((Qaf _ _).trans hok.kl),((Qaf _ _).trans hok.pl)]; rfl))) ?_
 refine Qaa (.pointer (some ⟨gO,0+(2*m)*99,none⟩)) 16 rfl kj (Qa1 23 _ _ .i64 (2*m) gO 0 ts.length cO 41 99 rfl kj kj kj kj (by omega)) ?_
 refine QeL 41 _ _ gO (2*m) cO (n:=nd) hM hU (by omega) hok rfl kj kj kj rfl kj fun W3 p3 hV0=>?_
 have x3:Ext w W3:=Puts.ext p3 x2 bgO
 obtain ⟨-,cuV0,rV3⟩:=hV0.rowBlock (g:=gO) rfl
 refine Qae ?_
 refine hK6 _ _ ?_
 refine wp_seq_k fun K7 hK7=>?_
 refine Qab ?_
 refine Qaa (.int .i64 ((m:Nat):Int)) 17 rfl kj kj ?_
 refine Qaa (.int .i64 (2*((m:Nat):Int))) 18 rfl kj (Qai (u:=.int .i64 (IntKind.i64.wrap (2*((m:Nat):Int)))) kj (congrArg (Value.int .i64) (IntWalk.i64_in _ (by omega)))) ?_
 refine Qaa (.slice a_t ts.length c_t) 19 rfl kj kj ?_
 refine Qaa (.int .i64 ((ts.length:Nat):Int)) 20 rfl kj kj ?_
 refine Qaj (.int .i64 ((L:Nat):Int)) 32 #[.int .i64 ((ts.length:Nat):Int)] 21 rfl kj kj (Qcp ((ts.length:Nat):Int) _ (QbG htl hL) _) fun W4 e4=>?_
 have x4:Ext w W4:=Ext.tr x3 e4
 refine Qa0 (fun v W'=>(OwnN .i64 3 W4.heap.size (upL (2*((m:Nat):Int)) ((L:Nat):Int) K)) v W'∧Ext W4 W') 54 #[.int .i64 (2*((m:Nat):Int)),.int .i64 ((L:Nat):Int)] 22 rfl kj kj ((QhD (2*((m:Nat):Int)) ((L:Nat):Int) K hK hneg hall _).mono (by rintro e w' ⟨v,rfl,e1,hv⟩; exact ⟨v,rfl,hv,e1⟩)) fun vv8 W5 hh8=>?_
 obtain ⟨hv8,e5⟩:=hh8
 have x5:Ext w W5:=Ext.tr x4 e5
 have r5_4:=(Qah rV3 e4)
 have nbp:Value.ownBlock vv8≠some gO:=OwnN.nb hv8 (QaC r5_4)
 have hrp:=OwnN.rd hv8
 obtain ⟨ap,cp,hvp,-⟩:=id hrp
 subst hvp
 refine Qaa (.slice ap ((upL (2*((m:Nat):Int)) ((L:Nat):Int) K).length) cp) 8 rfl kj kj ?_
 refine Qae ?_
 refine hK7 _ _ ?_
 refine wp_seq_k fun K9 hK9=>?_
 refine wp_seq_k fun K10 hK10=>?_
 refine Qab ?_
 refine Qaa (.int .i64 0) 9 rfl kj kj ?_
 refine Qae ?_
 refine hK10 _ _ ?_
 refine wp_block ?_
 have y3_4:Ext W3 W4:=(Rely.Ext.trans (Rely.Ext.refl W3) e4)
 have y3_5:Ext W3 W5:=(Rely.Ext.trans y3_4 e5)
 refine Qaz (fun (s1:Nat×List NdV)=>[(7,.slice (some ⟨gO,0,none⟩) ts.length cO),(8,.slice ap ((upL (2*((m:Nat):Int)) ((L:Nat):Int) K).length) cp),(9,.int .i64 ((s1.1:Nat):Int))]) (fun (s1:Nat×List NdV) W=>(s1.1≤(upL (2*((m:Nat):Int)) ((L:Nat):Int) K).length)∧(s1.2.length=ts.length)∧(s1.2=blkL (us.set (2*m) nd) (2*((m:Nat):Int)) ((L:Nat):Int) (List.range s1.1))∧(OwH W1.heap.size s1.2 (.slice (some ⟨gO,0,none⟩) ts.length cO) W (some (2*m)))∧(QaO [gO] W5 W)∧(Ext w W)) (fun (s1:Nat×List NdV)=>(upL (2*((m:Nat):Int)) ((L:Nat):Int) K).length-s1.1) (0,(us.set (2*m) nd)) ⟨rfl,rfl,rfl,trivial⟩ ⟨(Nat.zero_le _),((List.length_set ..).trans hM),rfl,(OwH.ext hV0 y3_5),(QaO.refl [gO] W5),x5⟩ fun s1 X1 V1 hI1=>?_
 obtain ⟨k,vs⟩:=s1
 obtain ⟨hk,hvl,hvs,hV,kk1,xx1⟩:=hI1
 replace hk:k≤(upL (2*((m:Nat):Int)) ((L:Nat):Int) K).length:=hk
 replace hvl:vs.length=ts.length:=hvl
 replace hvs:vs=blkL (us.set (2*m) nd) (2*((m:Nat):Int)) ((L:Nat):Int) (List.range k):=hvs
 replace hV:OwH W1.heap.size vs (.slice (some ⟨gO,0,none⟩) ts.length cO) V1 (some (2*m)):=hV
 replace kk1:QaO [gO] W5 V1:=kk1
 replace xx1:Ext w V1:=xx1
 have q6:=kk1
 obtain ⟨-,cuV,rOv⟩:=hV.rowBlock (g:=gO) rfl
 refine wp_seq_k fun K11 hK11=>?_
 refine wp_seq_k fun K12 hK12=>?_
 refine Qab ?_
 refine Qaa (.int .i64 ((k:Nat):Int)) 23 rfl kj kj ?_
 refine Qaa (.slice ap ((upL (2*((m:Nat):Int)) ((L:Nat):Int) K).length) cp) 24 rfl kj kj ?_
 refine Qaa (.int .i64 (((upL (2*((m:Nat):Int)) ((L:Nat):Int) K).length:Nat):Int)) 25 rfl kj kj ?_
 refine Qaa (.bool (decide (((k:Nat):Int)<(((upL (2*((m:Nat):Int)) ((L:Nat):Int) K).length:Nat):Int)))) 26 rfl kj kj ?_
 refine Qae ?_
 refine hK12 _ _ ?_
 refine Qas (t:=decide (((k:Nat):Int)<(((upL (2*((m:Nat):Int)) ((L:Nat):Int) K).length:Nat):Int))) kj (fun c13=>?_) (fun c13=>?_)
 ·skip
  have hlt26:k<(upL (2*((m:Nat):Int)) ((L:Nat):Int) K).length:=by have:=of_decide_eq_true c13; omega
  have f15_6:=(OwnN.keepsL hv8 q6 (QfP nbp QhX))
  have hnx_14:(upL (2*((m:Nat):Int)) ((L:Nat):Int) K).length=(upL (2*((m:Nat):Int)) ((L:Nat):Int) K).length:=rfl
  obtain ⟨gcx_14,ocx_14,hax_14,hlx_14,hcx_14⟩:=QaV (OwnN.rd f15_6) (by rw [hnx_14]; omega)
  have hkK:k<K:=by rw [QcM] at hlt26; exact hlt26
  have hk0:=hall k hkK
  obtain ⟨u,hu⟩:∃ u,u=upN (2*((m:Nat):Int)) ((L:Nat):Int) k:=⟨_,rfl⟩
  have hue:=Qb9 hk0
  rw [←hu] at hue
  have huo:=QcL hk0
  have hul:=Qdx (x:=2*((m:Nat):Int)) k hTr
  rw [←hu] at hul
  have hnu:nth (upL (2*((m:Nat):Int)) ((L:Nat):Int) K) k=((u:Nat):Int):=(QfC hkK).trans hue.symm
  refine wp_skip ?_
  refine hK11 _ _ ?_
  refine wp_seq_k fun K16 hK16=>?_
  refine wp_block ?_
  refine Qab ?_
  refine Qaa (.slice (some ⟨gO,0,none⟩) ts.length cO) 29 rfl kj kj ?_
  refine Qaa (.slice ap ((upL (2*((m:Nat):Int)) ((L:Nat):Int) K).length) cp) 30 rfl kj kj ?_
  refine Qaa (.int .i64 ((k:Nat):Int)) 31 rfl kj kj ?_
  refine Qaa (.pointer (some ⟨gcx_14,ocx_14+k,none⟩)) 32 rfl kj (Qa9 36 _ _ .i64 k gcx_14 ocx_14 ((upL (2*((m:Nat):Int)) ((L:Nat):Int) K).length) cp 3 ap _ hax_14 rfl rfl kj kj kj kj (Nat.lt_of_lt_of_eq (show k<(upL (2*((m:Nat):Int)) ((L:Nat):Int) K).length by omega) hnx_14.symm)) ?_
  refine Qaa (.int .i64 ((u:Nat):Int)) 33 rfl kj (by rw [←hnu]; exact (Qak 3 _ _ (.int .i64 (nth (upL (2*((m:Nat):Int)) ((L:Nat):Int) K) (k))) (hcx_14 k (Nat.lt_of_lt_of_eq (show k<(upL (2*((m:Nat):Int)) ((L:Nat):Int) K).length by omega) hnx_14.symm)) rfl kj kj)) ?_
  refine Qaa (.agg (cat [#[.bool false],#[.int .i64 0],ints .u8 (List.replicate 32 0),ints .u8 (List.replicate 32 0),ints .u8 (List.replicate 32 0),#[.slice none 0 0]])) 34 rfl kj kj ?_
  refine Qaa (.pointer (some ⟨gO,0+u*99,none⟩)) 35 rfl kj (Qa1 23 _ _ .i64 u gO 0 ts.length cO 41 99 rfl kj kj kj kj (by omega)) ?_
  refine QiT 41 _ _ gO (2*m) u cO hvl hV (by omega) (by omega) rfl kj kj kj rfl kj fun W7 p7 hV2=>?_
  have x7:Ext w W7:=Puts.ext p7 xx1 bgO
  refine Qae ?_
  refine hK16 _ _ ?_
  refine Qab ?_
  refine Qaa (.int .i64 ((k:Nat):Int)) 27 rfl kj kj ?_
  refine Qaa (.int .i64 ((k+1:Nat):Int)) 28 rfl kj (Qai (u:=.int .i64 (IntKind.i64.wrap (((k:Nat):Int)+1))) kj (congrArg (Value.int .i64) (i64n _ _ (by omega) (by omega)))) ?_
  refine Qaa (.int .i64 ((k+1:Nat):Int)) 9 rfl kj kj ?_
  refine Qae ?_
  repeat (first | with_reducible refine goX1 ?_ | with_reducible refine goX2 ?_ | with_reducible refine goX3 ?_)
  exact Qaq ((k+1),(vs.set u zn)) ⟨rfl,rfl,rfl,trivial⟩ ⟨(by omega),((List.length_set ..).trans hvl),(by rw [List.range_succ,QgB,←hvs,hu]),hV2,(QaO.puts q6 p7 (.inl (by simp))),x7⟩ (by show (upL (2*((m:Nat):Int)) ((L:Nat):Int) K).length-(k+1)<(upL (2*((m:Nat):Int)) ((L:Nat):Int) K).length-k; omega)
 ·skip
  have heq26:k=(upL (2*((m:Nat):Int)) ((L:Nat):Int) K).length:=by have:=of_decide_eq_false c13; omega
  refine wp_exit ?_
  refine hK9 _ _ ?_
  refine wp_seq_k fun K17 hK17=>?_
  refine Qab ?_
  refine Qaa (.slice (some ⟨gO,0,none⟩) ts.length cO) 36 rfl kj kj ?_
  refine Qaa (.slice (some ⟨gO,0,none⟩) ts.length cO) 6 rfl kj kj ?_
  refine Qae ?_
  refine hK17 _ _ ?_
  refine wp_ret ?_
  repeat (first | with_reducible refine goR1 ?_ | with_reducible refine goR2 ?_)
  have hvE:vs=blkT (us.set (2*m) nd) (2*((m:Nat):Int)) ((L:Nat):Int):=by rw [hvs,heq26,QcM]; show _=blkL (us.set (2*m) nd) (2*((m:Nat):Int)) ((L:Nat):Int) (pthL (2*((m:Nat):Int)) ((L:Nat):Int)); rw [Qec hK hneg hall]
  have hnd2:ndi vs (2*m)=nd:=by rw [hvE,Qc7,Qa8 nd (by omega),if_pos rfl]
  have hVf:=hV.low x1.size
  rw [←hvl] at hVf
  have hfr:=hVf.frE (by rw [hnd2]; exact hms) (by rw [hnd2]; exact rdE hr0)
  rw [hvl,hvE] at hfr
  exact (show bodyPost _ _ _ .ret _ _ from ret1 (.slice (some ⟨gO,0,none⟩) ts.length cO) rfl (Qam kj) ⟨_,rfl,xx1,us,has,hfr,(by rw [Qb7,List.length_set]; exact has.1),_,_,rfl,hcO⟩)
end Go.Proofs.YtcmaolmofgmkhaaDoor.Te
end
section
namespace Go.Proofs.YtcmaolmofgmkhaaDoor.Te
open Go Go.RowKit
open Rely Auto Own Seat Sha
theorem FrT.low {a b:Nat} {us:List NdV} {v:Value} {W:World} (h:FrT b us v W) (hab:a≤b):FrT a us v W:=by
  obtain ⟨x,c,e,h1,h2,h3⟩:=h
  exact ⟨x,c,e,h1,h2.mono fun g hg=>qT hab hg,h3⟩
theorem atN (ts : List NdV) (a_t:Option Addr) (c_t B1:Nat) (w:World) (ht:TrAt B1 w a_t ts) (htl:ts.length≤100000) (L:Nat) (hlen:ts.length+1=2*L) (hL3:L≤32) (n:Int) (hn:n<0∨((L:Nat):Int)≤n):Calls Tryd.prog 57 #[.slice a_t ts.length c_t,.int .i64 n] w (Ret w (.bool false)):=by
  by_cases h0:n<0
  · exact Qmy ts a_t c_t B1 w ht htl n h0
  · by_cases h1:32≤n
    · exact Qmx ts a_t c_t B1 w ht htl n (by omega) h1
    · exact Qmw ts a_t c_t B1 w ht htl n (by omega) (by omega) (by omega)
set_option maxRecDepth 100000 in
theorem Qh3 (ts : List NdV) (a_t:Option Addr) (c_t B1:Nat) (w:World) (ht:TrAt B1 w a_t ts) (htl:ts.length≤100000) (hmt:∀ i,i<ts.length→(ndi ts i).n.ms.length≤1000) (nd:NdV) (hok:NdOk nd.n) (B2:Nat) (hr:RdK .i64 B2 nd.n.ms (.slice nd.a nd.n.ms.length nd.c) w) (hml:nd.n.ms.length≤1000) (hc:chkT ts=false) (n:Int):Calls Tryd.prog 28 #[.slice a_t ts.length c_t,.int .i64 n,.agg (cat [#[.bool nd.n.us],#[.int .i64 nd.n.nm],ints .u8 (nd.n.key),ints .u8 (nd.n.sg),ints .u8 (nd.n.pa),#[.slice nd.a nd.n.ms.length nd.c]])] w (Ret w (.tuple #[.slice none 0 0,.int .i64 3])):=by
  refine enter 38 [(0,.slice a_t ts.length c_t),(1,.int .i64 n),(2,.agg (cat [#[.bool nd.n.us],#[.int .i64 nd.n.nm],ints .u8 (nd.n.key),ints .u8 (nd.n.sg),ints .u8 (nd.n.pa),#[.slice nd.a nd.n.ms.length nd.c]]))] Tryd.func28 rfl rfl kj rfl ?_
  refine wp_seq_k fun K1 hK1=>?_
  refine Qab ?_
  refine Qan (cat [#[.bool nd.n.us],#[.int .i64 nd.n.nm],ints .u8 (nd.n.key),ints .u8 (nd.n.sg),ints .u8 (nd.n.pa),#[.slice nd.a nd.n.ms.length nd.c]]) 41 5 rfl kj kj fun g2 W1 l2 e1 r2_1=>?_
  have x1:Ext w W1:=Ext.tr (Rely.Ext.refl w) e1
  have b2:w.heap.size≤g2:=qT (Rely.Ext.refl w).size l2
  refine Qaa (.slice none 0 0) 6 rfl kj kj ?_
  refine Qaa (.int .i64 0) 7 rfl kj kj ?_
  refine Qae ?_
  refine hK1 _ _ ?_
  refine wp_seq_k fun K3 hK3=>?_
  refine wp_seq_k fun K4 hK4=>?_
  refine Qab ?_
  refine Qaa (.slice a_t ts.length c_t) 9 rfl kj kj ?_
  refine Qaj (.bool false) 12 #[.slice a_t ts.length c_t] 10 rfl kj kj (Qcs ts a_t c_t _ _ (TrAt.ext ht x1) htl (fun i hi=>qT (hmt i hi) (by decide)) false hc) fun W2 e2=>?_
  have x2:Ext w W2:=Ext.tr x1 e2
  refine Qaa (.bool true) 11 rfl kj kj ?_
  refine Qaa (.bool true) 12 rfl kj kj ?_
  refine Qad 13 rfl kj ?_
  refine Qad 14 rfl kj ?_
  refine Qad 15 rfl kj ?_
  refine Qaa (.bool true) 16 rfl kj kj ?_
  refine Qae ?_
  refine hK4 _ _ ?_
  refine cond_true kj ?_
  refine wp_seq_k fun K5 hK5=>?_
  refine Qab ?_
  refine Qaa (.slice none 0 0) 6 rfl kj kj ?_
  refine Qaa (.int .i64 3) 7 rfl kj kj ?_
  refine Qae ?_
  refine hK5 _ _ ?_
  refine wp_ret ?_
  repeat (first | with_reducible refine goR1 ?_ | with_reducible refine goR2 ?_)
  exact (show bodyPost _ _ _ .ret _ _ from ret2 (.slice none 0 0) (.int .i64 3) rfl (Qam kj) (Qam kj) ⟨rfl,x2⟩)
set_option maxRecDepth 100000 in
theorem Qh1 (ts : List NdV) (a_t:Option Addr) (c_t B1:Nat) (w:World) (ht:TrAt B1 w a_t ts) (htl:ts.length≤100000) (hmt:∀ i,i<ts.length→(ndi ts i).n.ms.length≤1000) (nd:NdV) (hok:NdOk nd.n) (B2:Nat) (hr:RdK .i64 B2 nd.n.ms (.slice nd.a nd.n.ms.length nd.c) w) (hml:nd.n.ms.length≤1000) (hc:chkT ts=true) (hs:QaD nd.n=false) (n:Int):Calls Tryd.prog 28 #[.slice a_t ts.length c_t,.int .i64 n,.agg (cat [#[.bool nd.n.us],#[.int .i64 nd.n.nm],ints .u8 (nd.n.key),ints .u8 (nd.n.sg),ints .u8 (nd.n.pa),#[.slice nd.a nd.n.ms.length nd.c]])] w (Ret w (.tuple #[.slice none 0 0,.int .i64 3])):=by
  refine enter 38 [(0,.slice a_t ts.length c_t),(1,.int .i64 n),(2,.agg (cat [#[.bool nd.n.us],#[.int .i64 nd.n.nm],ints .u8 (nd.n.key),ints .u8 (nd.n.sg),ints .u8 (nd.n.pa),#[.slice nd.a nd.n.ms.length nd.c]]))] Tryd.func28 rfl rfl kj rfl ?_
  refine wp_seq_k fun K1 hK1=>?_
  refine Qab ?_
  refine Qan (cat [#[.bool nd.n.us],#[.int .i64 nd.n.nm],ints .u8 (nd.n.key),ints .u8 (nd.n.sg),ints .u8 (nd.n.pa),#[.slice nd.a nd.n.ms.length nd.c]]) 41 5 rfl kj kj fun g2 W1 l2 e1 r2_1=>?_
  have x1:Ext w W1:=Ext.tr (Rely.Ext.refl w) e1
  have b2:w.heap.size≤g2:=qT (Rely.Ext.refl w).size l2
  refine Qaa (.slice none 0 0) 6 rfl kj kj ?_
  refine Qaa (.int .i64 0) 7 rfl kj kj ?_
  refine Qae ?_
  refine hK1 _ _ ?_
  refine wp_seq_k fun K3 hK3=>?_
  refine wp_seq_k fun K4 hK4=>?_
  refine Qab ?_
  refine Qaa (.slice a_t ts.length c_t) 9 rfl kj kj ?_
  refine Qaj (.bool true) 12 #[.slice a_t ts.length c_t] 10 rfl kj kj (Qcs ts a_t c_t _ _ (TrAt.ext ht x1) htl (fun i hi=>qT (hmt i hi) (by decide)) true hc) fun W2 e2=>?_
  have x2:Ext w W2:=Ext.tr x1 e2
  refine Qaa (.bool false) 11 rfl kj kj ?_
  refine Qaa (.bool false) 12 rfl kj kj ?_
  have r2_2:=(Qah r2_1 e2)
  refine Qaa (.agg (cat [#[.bool nd.n.us],#[.int .i64 nd.n.nm],ints .u8 (nd.n.key),ints .u8 (nd.n.sg),ints .u8 (nd.n.pa),#[.slice nd.a nd.n.ms.length nd.c]])) 13 rfl kj (Qau 41 _ g2 41 _ _ r2_2 rfl kj kj (isz (n:=99) kj (by rw [Qac,Qac,Qac,Qac,Qac,Qac]; simp only [qS,cat,((Qaf _ _).trans hok.gl),((Qaf _ _).trans hok.kl),((Qaf _ _).trans hok.pl)]; rfl))) ?_
  refine Qaj (.bool false) 43 #[.agg (cat [#[.bool nd.n.us],#[.int .i64 nd.n.nm],ints .u8 (nd.n.key),ints .u8 (nd.n.sg),ints .u8 (nd.n.pa),#[.slice nd.a nd.n.ms.length nd.c]])] 14 rfl kj kj ((hs▸Qcv nd hok _)) fun W3 e3=>?_
  have x3:Ext w W3:=Ext.tr x2 e3
  refine Qaa (.bool true) 15 rfl kj kj ?_
  refine Qaa (.bool true) 16 rfl kj kj ?_
  refine Qae ?_
  refine hK4 _ _ ?_
  refine cond_true kj ?_
  refine wp_seq_k fun K5 hK5=>?_
  refine Qab ?_
  refine Qaa (.slice none 0 0) 6 rfl kj kj ?_
  refine Qaa (.int .i64 3) 7 rfl kj kj ?_
  refine Qae ?_
  refine hK5 _ _ ?_
  refine wp_ret ?_
  repeat (first | with_reducible refine goR1 ?_ | with_reducible refine goR2 ?_)
  exact (show bodyPost _ _ _ .ret _ _ from ret2 (.slice none 0 0) (.int .i64 3) rfl (Qam kj) (Qam kj) ⟨rfl,x3⟩)
set_option maxRecDepth 100000 in
theorem Qfv (ts : List NdV) (a_t:Option Addr) (c_t B1:Nat) (w:World) (ht:TrAt B1 w a_t ts) (htl:ts.length≤100000) (hmt:∀ i,i<ts.length→(ndi ts i).n.ms.length≤1000) (nd:NdV) (hok:NdOk nd.n) (B2:Nat) (hr:RdK .i64 B2 nd.n.ms (.slice nd.a nd.n.ms.length nd.c) w) (hml:nd.n.ms.length≤1000) (hc:chkT ts=true) (hs:QaD nd.n=true) (L:Nat) (hL:leaves ((ts.length:Nat):Int)=((L:Nat):Int)) (hL3:L≤32) (hlen:ts.length+1=2*L) (hTr:Qaw ((L:Nat):Int)=true) (n:Int) (hn:n<0∨((L:Nat):Int)≤n):Calls Tryd.prog 28 #[.slice a_t ts.length c_t,.int .i64 n,.agg (cat [#[.bool nd.n.us],#[.int .i64 nd.n.nm],ints .u8 (nd.n.key),ints .u8 (nd.n.sg),ints .u8 (nd.n.pa),#[.slice nd.a nd.n.ms.length nd.c]])] w (Ret w (.tuple #[.slice none 0 0,.int .i64 9])):=by
  refine enter 38 [(0,.slice a_t ts.length c_t),(1,.int .i64 n),(2,.agg (cat [#[.bool nd.n.us],#[.int .i64 nd.n.nm],ints .u8 (nd.n.key),ints .u8 (nd.n.sg),ints .u8 (nd.n.pa),#[.slice nd.a nd.n.ms.length nd.c]]))] Tryd.func28 rfl rfl kj rfl ?_
  refine wp_seq_k fun K1 hK1=>?_
  refine Qab ?_
  refine Qan (cat [#[.bool nd.n.us],#[.int .i64 nd.n.nm],ints .u8 (nd.n.key),ints .u8 (nd.n.sg),ints .u8 (nd.n.pa),#[.slice nd.a nd.n.ms.length nd.c]]) 41 5 rfl kj kj fun g2 W1 l2 e1 r2_1=>?_
  have x1:Ext w W1:=Ext.tr (Rely.Ext.refl w) e1
  have b2:w.heap.size≤g2:=qT (Rely.Ext.refl w).size l2
  refine Qaa (.slice none 0 0) 6 rfl kj kj ?_
  refine Qaa (.int .i64 0) 7 rfl kj kj ?_
  refine Qae ?_
  refine hK1 _ _ ?_
  refine wp_seq_k fun K3 hK3=>?_
  refine wp_seq_k fun K4 hK4=>?_
  refine Qab ?_
  refine Qaa (.slice a_t ts.length c_t) 9 rfl kj kj ?_
  refine Qaj (.bool true) 12 #[.slice a_t ts.length c_t] 10 rfl kj kj (Qcs ts a_t c_t _ _ (TrAt.ext ht x1) htl (fun i hi=>qT (hmt i hi) (by decide)) true hc) fun W2 e2=>?_
  have x2:Ext w W2:=Ext.tr x1 e2
  refine Qaa (.bool false) 11 rfl kj kj ?_
  refine Qaa (.bool false) 12 rfl kj kj ?_
  have r2_2:=(Qah r2_1 e2)
  refine Qaa (.agg (cat [#[.bool nd.n.us],#[.int .i64 nd.n.nm],ints .u8 (nd.n.key),ints .u8 (nd.n.sg),ints .u8 (nd.n.pa),#[.slice nd.a nd.n.ms.length nd.c]])) 13 rfl kj (Qau 41 _ g2 41 _ _ r2_2 rfl kj kj (isz (n:=99) kj (by rw [Qac,Qac,Qac,Qac,Qac,Qac]; simp only [qS,cat,((Qaf _ _).trans hok.gl),((Qaf _ _).trans hok.kl),((Qaf _ _).trans hok.pl)]; rfl))) ?_
  refine Qaj (.bool true) 43 #[.agg (cat [#[.bool nd.n.us],#[.int .i64 nd.n.nm],ints .u8 (nd.n.key),ints .u8 (nd.n.sg),ints .u8 (nd.n.pa),#[.slice nd.a nd.n.ms.length nd.c]])] 14 rfl kj kj ((hs▸Qcv nd hok _)) fun W3 e3=>?_
  have x3:Ext w W3:=Ext.tr x2 e3
  refine Qaa (.bool false) 15 rfl kj kj ?_
  refine Qaa (.bool false) 16 rfl kj kj ?_
  refine Qae ?_
  refine hK4 _ _ ?_
  refine cond_false kj ?_
  refine wp_skip ?_
  refine hK3 _ _ ?_
  refine wp_seq_k fun K5 hK5=>?_
  refine Qab ?_
  refine Qaa (.slice a_t ts.length c_t) 17 rfl kj kj ?_
  refine Qaa (.pointer (some ⟨g2,1,none⟩)) 18 rfl kj kj ?_
  have r2_3:=(Qah r2_2 e3)
  refine Qaa (.int .i64 nd.n.nm) 19 rfl kj (Qag 3 _ g2 1 41 _ (.int .i64 nd.n.nm) _ r2_3 rfl kj (Qal [#[.bool nd.n.us]] [#[.int .i64 nd.n.nm]] [ints .u8 (nd.n.key),ints .u8 (nd.n.sg),ints .u8 (nd.n.pa),#[.slice nd.a nd.n.ms.length nd.c]] 1 kj 0 _ rfl) kj) ?_
  refine Qaj (.int .i64 (Qa7 ts nd.n.nm)) 17 #[.slice a_t ts.length c_t,.int .i64 nd.n.nm] 20 rfl kj kj (Qfc ts a_t c_t _ _ (TrAt.ext ht x3) htl nd.n.nm) fun W4 e4=>?_
  have x4:Ext w W4:=Ext.tr x3 e4
  refine Qaa (.int .i64 (Qa7 ts nd.n.nm)) 8 rfl kj kj ?_
  refine Qae ?_
  refine hK5 _ _ ?_
  refine wp_seq_k fun K6 hK6=>?_
  refine wp_seq_k fun K7 hK7=>?_
  refine Qab ?_
  refine Qaa (.slice a_t ts.length c_t) 21 rfl kj kj ?_
  refine Qaa (.int .i64 n) 22 rfl kj kj ?_
  refine Qaj (.bool false) 57 #[.slice a_t ts.length c_t,.int .i64 n] 23 rfl kj kj (atN ts a_t c_t _ _ (TrAt.ext ht x4) htl L hlen hL3 n hn) fun W5 e5=>?_
  have x5:Ext w W5:=Ext.tr x4 e5
  refine Qaa (.bool true) 24 rfl kj kj ?_
  refine Qaa (.bool true) 25 rfl kj kj ?_
  refine Qad 26 rfl kj ?_
  refine Qad 27 rfl kj ?_
  refine Qad 28 rfl kj ?_
  refine Qad 29 rfl kj ?_
  refine Qad 30 rfl kj ?_
  refine Qad 31 rfl kj ?_
  refine Qad 32 rfl kj ?_
  refine Qaa (.bool true) 33 rfl kj kj ?_
  refine Qae ?_
  refine hK7 _ _ ?_
  refine cond_true kj ?_
  refine wp_seq_k fun K8 hK8=>?_
  refine Qab ?_
  refine Qaa (.slice none 0 0) 6 rfl kj kj ?_
  refine Qaa (.int .i64 9) 7 rfl kj kj ?_
  refine Qae ?_
  refine hK8 _ _ ?_
  refine wp_ret ?_
  repeat (first | with_reducible refine goR1 ?_ | with_reducible refine goR2 ?_)
  exact (show bodyPost _ _ _ .ret _ _ from ret2 (.slice none 0 0) (.int .i64 9) rfl (Qam kj) (Qam kj) ⟨rfl,x5⟩)
set_option maxRecDepth 100000 in
theorem Qh5 (ts : List NdV) (a_t:Option Addr) (c_t B1:Nat) (w:World) (ht:TrAt B1 w a_t ts) (htl:ts.length≤100000) (hmt:∀ i,i<ts.length→(ndi ts i).n.ms.length≤1000) (nd:NdV) (hok:NdOk nd.n) (B2:Nat) (hr:RdK .i64 B2 nd.n.ms (.slice nd.a nd.n.ms.length nd.c) w) (hml:nd.n.ms.length≤1000) (hc:chkT ts=true) (hs:QaD nd.n=true) (L:Nat) (hL:leaves ((ts.length:Nat):Int)=((L:Nat):Int)) (hL3:L≤32) (hlen:ts.length+1=2*L) (hTr:Qaw ((L:Nat):Int)=true) (m:Nat) (hm:m<L) (hus:(ndi ts (2*m)).n.us=false):Calls Tryd.prog 28 #[.slice a_t ts.length c_t,.int .i64 ((m:Nat):Int),.agg (cat [#[.bool nd.n.us],#[.int .i64 nd.n.nm],ints .u8 (nd.n.key),ints .u8 (nd.n.sg),ints .u8 (nd.n.pa),#[.slice nd.a nd.n.ms.length nd.c]])] w (Ret w (.tuple #[.slice none 0 0,.int .i64 9])):=by
  refine enter 38 [(0,.slice a_t ts.length c_t),(1,.int .i64 ((m:Nat):Int)),(2,.agg (cat [#[.bool nd.n.us],#[.int .i64 nd.n.nm],ints .u8 (nd.n.key),ints .u8 (nd.n.sg),ints .u8 (nd.n.pa),#[.slice nd.a nd.n.ms.length nd.c]]))] Tryd.func28 rfl rfl kj rfl ?_
  refine wp_seq_k fun K1 hK1=>?_
  refine Qab ?_
  refine Qan (cat [#[.bool nd.n.us],#[.int .i64 nd.n.nm],ints .u8 (nd.n.key),ints .u8 (nd.n.sg),ints .u8 (nd.n.pa),#[.slice nd.a nd.n.ms.length nd.c]]) 41 5 rfl kj kj fun g2 W1 l2 e1 r2_1=>?_
  have x1:Ext w W1:=Ext.tr (Rely.Ext.refl w) e1
  have b2:w.heap.size≤g2:=qT (Rely.Ext.refl w).size l2
  refine Qaa (.slice none 0 0) 6 rfl kj kj ?_
  refine Qaa (.int .i64 0) 7 rfl kj kj ?_
  refine Qae ?_
  refine hK1 _ _ ?_
  refine wp_seq_k fun K3 hK3=>?_
  refine wp_seq_k fun K4 hK4=>?_
  refine Qab ?_
  refine Qaa (.slice a_t ts.length c_t) 9 rfl kj kj ?_
  refine Qaj (.bool true) 12 #[.slice a_t ts.length c_t] 10 rfl kj kj (Qcs ts a_t c_t _ _ (TrAt.ext ht x1) htl (fun i hi=>qT (hmt i hi) (by decide)) true hc) fun W2 e2=>?_
  have x2:Ext w W2:=Ext.tr x1 e2
  refine Qaa (.bool false) 11 rfl kj kj ?_
  refine Qaa (.bool false) 12 rfl kj kj ?_
  have r2_2:=(Qah r2_1 e2)
  refine Qaa (.agg (cat [#[.bool nd.n.us],#[.int .i64 nd.n.nm],ints .u8 (nd.n.key),ints .u8 (nd.n.sg),ints .u8 (nd.n.pa),#[.slice nd.a nd.n.ms.length nd.c]])) 13 rfl kj (Qau 41 _ g2 41 _ _ r2_2 rfl kj kj (isz (n:=99) kj (by rw [Qac,Qac,Qac,Qac,Qac,Qac]; simp only [qS,cat,((Qaf _ _).trans hok.gl),((Qaf _ _).trans hok.kl),((Qaf _ _).trans hok.pl)]; rfl))) ?_
  refine Qaj (.bool true) 43 #[.agg (cat [#[.bool nd.n.us],#[.int .i64 nd.n.nm],ints .u8 (nd.n.key),ints .u8 (nd.n.sg),ints .u8 (nd.n.pa),#[.slice nd.a nd.n.ms.length nd.c]])] 14 rfl kj kj ((hs▸Qcv nd hok _)) fun W3 e3=>?_
  have x3:Ext w W3:=Ext.tr x2 e3
  refine Qaa (.bool false) 15 rfl kj kj ?_
  refine Qaa (.bool false) 16 rfl kj kj ?_
  refine Qae ?_
  refine hK4 _ _ ?_
  refine cond_false kj ?_
  refine wp_skip ?_
  refine hK3 _ _ ?_
  refine wp_seq_k fun K5 hK5=>?_
  refine Qab ?_
  refine Qaa (.slice a_t ts.length c_t) 17 rfl kj kj ?_
  refine Qaa (.pointer (some ⟨g2,1,none⟩)) 18 rfl kj kj ?_
  have r2_3:=(Qah r2_2 e3)
  refine Qaa (.int .i64 nd.n.nm) 19 rfl kj (Qag 3 _ g2 1 41 _ (.int .i64 nd.n.nm) _ r2_3 rfl kj (Qal [#[.bool nd.n.us]] [#[.int .i64 nd.n.nm]] [ints .u8 (nd.n.key),ints .u8 (nd.n.sg),ints .u8 (nd.n.pa),#[.slice nd.a nd.n.ms.length nd.c]] 1 kj 0 _ rfl) kj) ?_
  refine Qaj (.int .i64 (Qa7 ts nd.n.nm)) 17 #[.slice a_t ts.length c_t,.int .i64 nd.n.nm] 20 rfl kj kj (Qfc ts a_t c_t _ _ (TrAt.ext ht x3) htl nd.n.nm) fun W4 e4=>?_
  have x4:Ext w W4:=Ext.tr x3 e4
  refine Qaa (.int .i64 (Qa7 ts nd.n.nm)) 8 rfl kj kj ?_
  refine Qae ?_
  refine hK5 _ _ ?_
  refine wp_seq_k fun K6 hK6=>?_
  refine wp_seq_k fun K7 hK7=>?_
  refine Qab ?_
  refine Qaa (.slice a_t ts.length c_t) 21 rfl kj kj ?_
  refine Qaa (.int .i64 ((m:Nat):Int)) 22 rfl kj kj ?_
  refine Qaj (.bool false) 57 #[.slice a_t ts.length c_t,.int .i64 ((m:Nat):Int)] 23 rfl kj kj ((hus▸QfZ ts a_t c_t _ _ (TrAt.ext ht x4) htl m (by omega) (by omega))) fun W5 e5=>?_
  have x5:Ext w W5:=Ext.tr x4 e5
  refine Qaa (.bool true) 24 rfl kj kj ?_
  refine Qaa (.bool true) 25 rfl kj kj ?_
  refine Qad 26 rfl kj ?_
  refine Qad 27 rfl kj ?_
  refine Qad 28 rfl kj ?_
  refine Qad 29 rfl kj ?_
  refine Qad 30 rfl kj ?_
  refine Qad 31 rfl kj ?_
  refine Qad 32 rfl kj ?_
  refine Qaa (.bool true) 33 rfl kj kj ?_
  refine Qae ?_
  refine hK7 _ _ ?_
  refine cond_true kj ?_
  refine wp_seq_k fun K8 hK8=>?_
  refine Qab ?_
  refine Qaa (.slice none 0 0) 6 rfl kj kj ?_
  refine Qaa (.int .i64 9) 7 rfl kj kj ?_
  refine Qae ?_
  refine hK8 _ _ ?_
  refine wp_ret ?_
  repeat (first | with_reducible refine goR1 ?_ | with_reducible refine goR2 ?_)
  exact (show bodyPost _ _ _ .ret _ _ from ret2 (.slice none 0 0) (.int .i64 9) rfl (Qam kj) (Qam kj) ⟨rfl,x5⟩)
set_option maxRecDepth 100000 in
theorem Qh2 (ts : List NdV) (a_t:Option Addr) (c_t B1:Nat) (w:World) (ht:TrAt B1 w a_t ts) (htl:ts.length≤100000) (hmt:∀ i,i<ts.length→(ndi ts i).n.ms.length≤1000) (nd:NdV) (hok:NdOk nd.n) (B2:Nat) (hr:RdK .i64 B2 nd.n.ms (.slice nd.a nd.n.ms.length nd.c) w) (hml:nd.n.ms.length≤1000) (hc:chkT ts=true) (hs:QaD nd.n=true) (L:Nat) (hL:leaves ((ts.length:Nat):Int)=((L:Nat):Int)) (hL3:L≤32) (hlen:ts.length+1=2*L) (hTr:Qaw ((L:Nat):Int)=true) (m:Nat) (hm:m<L) (hus:(ndi ts (2*m)).n.us=true) (hf:0≤Qa7 ts nd.n.nm) (hf2:Qa7 ts nd.n.nm≠((m:Nat):Int)):Calls Tryd.prog 28 #[.slice a_t ts.length c_t,.int .i64 ((m:Nat):Int),.agg (cat [#[.bool nd.n.us],#[.int .i64 nd.n.nm],ints .u8 (nd.n.key),ints .u8 (nd.n.sg),ints .u8 (nd.n.pa),#[.slice nd.a nd.n.ms.length nd.c]])] w (Ret w (.tuple #[.slice none 0 0,.int .i64 9])):=by
  refine enter 38 [(0,.slice a_t ts.length c_t),(1,.int .i64 ((m:Nat):Int)),(2,.agg (cat [#[.bool nd.n.us],#[.int .i64 nd.n.nm],ints .u8 (nd.n.key),ints .u8 (nd.n.sg),ints .u8 (nd.n.pa),#[.slice nd.a nd.n.ms.length nd.c]]))] Tryd.func28 rfl rfl kj rfl ?_
  refine wp_seq_k fun K1 hK1=>?_
  refine Qab ?_
  refine Qan (cat [#[.bool nd.n.us],#[.int .i64 nd.n.nm],ints .u8 (nd.n.key),ints .u8 (nd.n.sg),ints .u8 (nd.n.pa),#[.slice nd.a nd.n.ms.length nd.c]]) 41 5 rfl kj kj fun g2 W1 l2 e1 r2_1=>?_
  have x1:Ext w W1:=Ext.tr (Rely.Ext.refl w) e1
  have b2:w.heap.size≤g2:=qT (Rely.Ext.refl w).size l2
  refine Qaa (.slice none 0 0) 6 rfl kj kj ?_
  refine Qaa (.int .i64 0) 7 rfl kj kj ?_
  refine Qae ?_
  refine hK1 _ _ ?_
  refine wp_seq_k fun K3 hK3=>?_
  refine wp_seq_k fun K4 hK4=>?_
  refine Qab ?_
  refine Qaa (.slice a_t ts.length c_t) 9 rfl kj kj ?_
  refine Qaj (.bool true) 12 #[.slice a_t ts.length c_t] 10 rfl kj kj (Qcs ts a_t c_t _ _ (TrAt.ext ht x1) htl (fun i hi=>qT (hmt i hi) (by decide)) true hc) fun W2 e2=>?_
  have x2:Ext w W2:=Ext.tr x1 e2
  refine Qaa (.bool false) 11 rfl kj kj ?_
  refine Qaa (.bool false) 12 rfl kj kj ?_
  have r2_2:=(Qah r2_1 e2)
  refine Qaa (.agg (cat [#[.bool nd.n.us],#[.int .i64 nd.n.nm],ints .u8 (nd.n.key),ints .u8 (nd.n.sg),ints .u8 (nd.n.pa),#[.slice nd.a nd.n.ms.length nd.c]])) 13 rfl kj (Qau 41 _ g2 41 _ _ r2_2 rfl kj kj (isz (n:=99) kj (by rw [Qac,Qac,Qac,Qac,Qac,Qac]; simp only [qS,cat,((Qaf _ _).trans hok.gl),((Qaf _ _).trans hok.kl),((Qaf _ _).trans hok.pl)]; rfl))) ?_
  refine Qaj (.bool true) 43 #[.agg (cat [#[.bool nd.n.us],#[.int .i64 nd.n.nm],ints .u8 (nd.n.key),ints .u8 (nd.n.sg),ints .u8 (nd.n.pa),#[.slice nd.a nd.n.ms.length nd.c]])] 14 rfl kj kj ((hs▸Qcv nd hok _)) fun W3 e3=>?_
  have x3:Ext w W3:=Ext.tr x2 e3
  refine Qaa (.bool false) 15 rfl kj kj ?_
  refine Qaa (.bool false) 16 rfl kj kj ?_
  refine Qae ?_
  refine hK4 _ _ ?_
  refine cond_false kj ?_
  refine wp_skip ?_
  refine hK3 _ _ ?_
  refine wp_seq_k fun K5 hK5=>?_
  refine Qab ?_
  refine Qaa (.slice a_t ts.length c_t) 17 rfl kj kj ?_
  refine Qaa (.pointer (some ⟨g2,1,none⟩)) 18 rfl kj kj ?_
  have r2_3:=(Qah r2_2 e3)
  refine Qaa (.int .i64 nd.n.nm) 19 rfl kj (Qag 3 _ g2 1 41 _ (.int .i64 nd.n.nm) _ r2_3 rfl kj (Qal [#[.bool nd.n.us]] [#[.int .i64 nd.n.nm]] [ints .u8 (nd.n.key),ints .u8 (nd.n.sg),ints .u8 (nd.n.pa),#[.slice nd.a nd.n.ms.length nd.c]] 1 kj 0 _ rfl) kj) ?_
  refine Qaj (.int .i64 (Qa7 ts nd.n.nm)) 17 #[.slice a_t ts.length c_t,.int .i64 nd.n.nm] 20 rfl kj kj (Qfc ts a_t c_t _ _ (TrAt.ext ht x3) htl nd.n.nm) fun W4 e4=>?_
  have x4:Ext w W4:=Ext.tr x3 e4
  refine Qaa (.int .i64 (Qa7 ts nd.n.nm)) 8 rfl kj kj ?_
  refine Qae ?_
  refine hK5 _ _ ?_
  refine wp_seq_k fun K6 hK6=>?_
  refine wp_seq_k fun K7 hK7=>?_
  refine Qab ?_
  refine Qaa (.slice a_t ts.length c_t) 21 rfl kj kj ?_
  refine Qaa (.int .i64 ((m:Nat):Int)) 22 rfl kj kj ?_
  refine Qaj (.bool true) 57 #[.slice a_t ts.length c_t,.int .i64 ((m:Nat):Int)] 23 rfl kj kj ((hus▸QfZ ts a_t c_t _ _ (TrAt.ext ht x4) htl m (by omega) (by omega))) fun W5 e5=>?_
  have x5:Ext w W5:=Ext.tr x4 e5
  refine Qaa (.bool false) 24 rfl kj kj ?_
  refine Qaa (.bool false) 25 rfl kj kj ?_
  refine Qaa (.int .i64 (Qa7 ts nd.n.nm)) 26 rfl kj kj ?_
  refine Qaa (.bool true) 27 rfl kj (Qai (u:=.bool (decide ((Qa7 ts nd.n.nm)≥0))) kj (congrArg Value.bool (decide_eq_true (by omega)))) ?_
  refine Qaa (.bool true) 28 rfl kj kj ?_
  refine Qaa (.int .i64 (Qa7 ts nd.n.nm)) 29 rfl kj kj ?_
  refine Qaa (.int .i64 ((m:Nat):Int)) 30 rfl kj kj ?_
  refine Qaa (.bool true) 31 rfl kj (Qai (u:=.bool (((Qa7 ts nd.n.nm) != ((m:Nat):Int)))) kj (congrArg Value.bool (bne_iff_ne.2 hf2))) ?_
  refine Qaa (.bool true) 32 rfl kj kj ?_
  refine Qaa (.bool true) 33 rfl kj kj ?_
  refine Qae ?_
  refine hK7 _ _ ?_
  refine cond_true kj ?_
  refine wp_seq_k fun K8 hK8=>?_
  refine Qab ?_
  refine Qaa (.slice none 0 0) 6 rfl kj kj ?_
  refine Qaa (.int .i64 9) 7 rfl kj kj ?_
  refine Qae ?_
  refine hK8 _ _ ?_
  refine wp_ret ?_
  repeat (first | with_reducible refine goR1 ?_ | with_reducible refine goR2 ?_)
  exact (show bodyPost _ _ _ .ret _ _ from ret2 (.slice none 0 0) (.int .i64 9) rfl (Qam kj) (Qam kj) ⟨rfl,x5⟩)
set_option maxRecDepth 100000 in
theorem Qh4 (ts : List NdV) (a_t:Option Addr) (c_t B1:Nat) (w:World) (ht:TrAt B1 w a_t ts) (htl:ts.length≤100000) (hmt:∀ i,i<ts.length→(ndi ts i).n.ms.length≤1000) (nd:NdV) (hok:NdOk nd.n) (B2:Nat) (hr:RdK .i64 B2 nd.n.ms (.slice nd.a nd.n.ms.length nd.c) w) (hml:nd.n.ms.length≤1000) (hc:chkT ts=true) (hs:QaD nd.n=true) (L:Nat) (hL:leaves ((ts.length:Nat):Int)=((L:Nat):Int)) (hL3:L≤32) (hlen:ts.length+1=2*L) (hTr:Qaw ((L:Nat):Int)=true) (m:Nat) (hm:m<L) (hus:(ndi ts (2*m)).n.us=true) (hf:Qa7 ts nd.n.nm<0) (hms:nd.n.ms=[]) (B3:Nat) (hr0:RdK .i64 B3 [] (.slice nd.a 0 nd.c) w):Calls Tryd.prog 28 #[.slice a_t ts.length c_t,.int .i64 ((m:Nat):Int),.agg (cat [#[.bool nd.n.us],#[.int .i64 nd.n.nm],ints .u8 (nd.n.key),ints .u8 (nd.n.sg),ints .u8 (nd.n.pa),#[.slice nd.a nd.n.ms.length nd.c]])] w (Qbw w (fun v W=>∃ us,AsC us ts∧∃ u,v=.tuple #[u,.int .i64 0]∧FrT w.heap.size (blkT (us.set (2*m) nd) (2*((m:Nat):Int)) ((L:Nat):Int)) u W∧(blkT (us.set (2*m) nd) (2*((m:Nat):Int)) ((L:Nat):Int)).length=ts.length)):=by
  refine enter 38 [(0,.slice a_t ts.length c_t),(1,.int .i64 ((m:Nat):Int)),(2,.agg (cat [#[.bool nd.n.us],#[.int .i64 nd.n.nm],ints .u8 (nd.n.key),ints .u8 (nd.n.sg),ints .u8 (nd.n.pa),#[.slice nd.a nd.n.ms.length nd.c]]))] Tryd.func28 rfl rfl kj rfl ?_
  refine wp_seq_k fun K1 hK1=>?_
  refine Qab ?_
  refine Qan (cat [#[.bool nd.n.us],#[.int .i64 nd.n.nm],ints .u8 (nd.n.key),ints .u8 (nd.n.sg),ints .u8 (nd.n.pa),#[.slice nd.a nd.n.ms.length nd.c]]) 41 5 rfl kj kj fun g2 W1 l2 e1 r2_1=>?_
  have x1:Ext w W1:=Ext.tr (Rely.Ext.refl w) e1
  have b2:w.heap.size≤g2:=qT (Rely.Ext.refl w).size l2
  refine Qaa (.slice none 0 0) 6 rfl kj kj ?_
  refine Qaa (.int .i64 0) 7 rfl kj kj ?_
  refine Qae ?_
  refine hK1 _ _ ?_
  refine wp_seq_k fun K3 hK3=>?_
  refine wp_seq_k fun K4 hK4=>?_
  refine Qab ?_
  refine Qaa (.slice a_t ts.length c_t) 9 rfl kj kj ?_
  refine Qaj (.bool true) 12 #[.slice a_t ts.length c_t] 10 rfl kj kj (Qcs ts a_t c_t _ _ (TrAt.ext ht x1) htl (fun i hi=>qT (hmt i hi) (by decide)) true hc) fun W2 e2=>?_
  have x2:Ext w W2:=Ext.tr x1 e2
  refine Qaa (.bool false) 11 rfl kj kj ?_
  refine Qaa (.bool false) 12 rfl kj kj ?_
  have r2_2:=(Qah r2_1 e2)
  refine Qaa (.agg (cat [#[.bool nd.n.us],#[.int .i64 nd.n.nm],ints .u8 (nd.n.key),ints .u8 (nd.n.sg),ints .u8 (nd.n.pa),#[.slice nd.a nd.n.ms.length nd.c]])) 13 rfl kj (Qau 41 _ g2 41 _ _ r2_2 rfl kj kj (isz (n:=99) kj (by rw [Qac,Qac,Qac,Qac,Qac,Qac]; simp only [qS,cat,((Qaf _ _).trans hok.gl),((Qaf _ _).trans hok.kl),((Qaf _ _).trans hok.pl)]; rfl))) ?_
  refine Qaj (.bool true) 43 #[.agg (cat [#[.bool nd.n.us],#[.int .i64 nd.n.nm],ints .u8 (nd.n.key),ints .u8 (nd.n.sg),ints .u8 (nd.n.pa),#[.slice nd.a nd.n.ms.length nd.c]])] 14 rfl kj kj ((hs▸Qcv nd hok _)) fun W3 e3=>?_
  have x3:Ext w W3:=Ext.tr x2 e3
  refine Qaa (.bool false) 15 rfl kj kj ?_
  refine Qaa (.bool false) 16 rfl kj kj ?_
  refine Qae ?_
  refine hK4 _ _ ?_
  refine cond_false kj ?_
  refine wp_skip ?_
  refine hK3 _ _ ?_
  refine wp_seq_k fun K5 hK5=>?_
  refine Qab ?_
  refine Qaa (.slice a_t ts.length c_t) 17 rfl kj kj ?_
  refine Qaa (.pointer (some ⟨g2,1,none⟩)) 18 rfl kj kj ?_
  have r2_3:=(Qah r2_2 e3)
  refine Qaa (.int .i64 nd.n.nm) 19 rfl kj (Qag 3 _ g2 1 41 _ (.int .i64 nd.n.nm) _ r2_3 rfl kj (Qal [#[.bool nd.n.us]] [#[.int .i64 nd.n.nm]] [ints .u8 (nd.n.key),ints .u8 (nd.n.sg),ints .u8 (nd.n.pa),#[.slice nd.a nd.n.ms.length nd.c]] 1 kj 0 _ rfl) kj) ?_
  refine Qaj (.int .i64 (Qa7 ts nd.n.nm)) 17 #[.slice a_t ts.length c_t,.int .i64 nd.n.nm] 20 rfl kj kj (Qfc ts a_t c_t _ _ (TrAt.ext ht x3) htl nd.n.nm) fun W4 e4=>?_
  have x4:Ext w W4:=Ext.tr x3 e4
  refine Qaa (.int .i64 (Qa7 ts nd.n.nm)) 8 rfl kj kj ?_
  refine Qae ?_
  refine hK5 _ _ ?_
  refine wp_seq_k fun K6 hK6=>?_
  refine wp_seq_k fun K7 hK7=>?_
  refine Qab ?_
  refine Qaa (.slice a_t ts.length c_t) 21 rfl kj kj ?_
  refine Qaa (.int .i64 ((m:Nat):Int)) 22 rfl kj kj ?_
  refine Qaj (.bool true) 57 #[.slice a_t ts.length c_t,.int .i64 ((m:Nat):Int)] 23 rfl kj kj ((hus▸QfZ ts a_t c_t _ _ (TrAt.ext ht x4) htl m (by omega) (by omega))) fun W5 e5=>?_
  have x5:Ext w W5:=Ext.tr x4 e5
  refine Qaa (.bool false) 24 rfl kj kj ?_
  refine Qaa (.bool false) 25 rfl kj kj ?_
  refine Qaa (.int .i64 (Qa7 ts nd.n.nm)) 26 rfl kj kj ?_
  refine Qaa (.bool false) 27 rfl kj (Qai (u:=.bool (decide ((Qa7 ts nd.n.nm)≥0))) kj (congrArg Value.bool (decide_eq_false (by omega)))) ?_
  refine Qaa (.bool false) 28 rfl kj kj ?_
  refine Qad 29 rfl kj ?_
  refine Qad 30 rfl kj ?_
  refine Qad 31 rfl kj ?_
  refine Qaa (.bool false) 32 rfl kj kj ?_
  refine Qaa (.bool false) 33 rfl kj kj ?_
  refine Qae ?_
  refine hK7 _ _ ?_
  refine cond_false kj ?_
  refine wp_skip ?_
  refine hK6 _ _ ?_
  refine wp_seq_k fun K8 hK8=>?_
  refine Qab ?_
  refine Qaa (.slice a_t ts.length c_t) 34 rfl kj kj ?_
  refine Qaa (.int .i64 ((m:Nat):Int)) 35 rfl kj kj ?_
  have r2_4:=(Qah r2_3 e4)
  have r2_5:=(Qah r2_4 e5)
  refine Qaa (.agg (cat [#[.bool nd.n.us],#[.int .i64 nd.n.nm],ints .u8 (nd.n.key),ints .u8 (nd.n.sg),ints .u8 (nd.n.pa),#[.slice nd.a nd.n.ms.length nd.c]])) 36 rfl kj (Qau 41 _ g2 41 _ _ r2_5 rfl kj kj (isz (n:=99) kj (by rw [Qac,Qac,Qac,Qac,Qac,Qac]; simp only [qS,cat,((Qaf _ _).trans hok.gl),((Qaf _ _).trans hok.kl),((Qaf _ _).trans hok.pl)]; rfl))) ?_
  refine Qa0 (fun v W'=>(fun v W9=>∃ us,AsC us ts∧FrT W5.heap.size (blkT (us.set (2*m) nd) (2*((m:Nat):Int)) ((L:Nat):Int)) v W9∧(blkT (us.set (2*m) nd) (2*((m:Nat):Int)) ((L:Nat):Int)).length=ts.length∧∃ a c,v=.slice a ts.length c∧ts.length≤c) v W'∧Ext W5 W') 58 #[.slice a_t ts.length c_t,.int .i64 ((m:Nat):Int),.agg (cat [#[.bool nd.n.us],#[.int .i64 nd.n.nm],ints .u8 (nd.n.key),ints .u8 (nd.n.sg),ints .u8 (nd.n.pa),#[.slice nd.a nd.n.ms.length nd.c]])] 37 rfl kj kj ((QfL ts a_t _ _ _ (TrAt.ext ht x5) htl hmt L hL hL3 hlen hTr m hm nd hok hms _ (rdE hr0)).mono (by rintro e w' ⟨v,rfl,e1,hv⟩; exact ⟨v,rfl,hv,e1⟩)) fun vv9 W6 hh9=>?_
  obtain ⟨hv9,e6⟩:=hh9
  have x6:Ext w W6:=Ext.tr x5 e6
  obtain ⟨us,has,hfr,hfl,-⟩:=hv9
  refine Qaa (vv9) 6 rfl kj kj ?_
  refine Qaa (.int .i64 0) 7 rfl kj kj ?_
  refine Qae ?_
  refine hK8 _ _ ?_
  refine wp_ret ?_
  repeat (first | with_reducible refine goR1 ?_ | with_reducible refine goR2 ?_)
  exact (show bodyPost _ _ _ .ret _ _ from ret2 (vv9) (.int .i64 0) rfl (Qam kj) (Qam kj) ⟨_,rfl,x6,us,has,_,rfl,FrT.low hfr x5.size,hfl⟩)
set_option maxRecDepth 100000 in
theorem Qh0 (ts : List NdV) (a_t:Option Addr) (c_t B1:Nat) (w:World) (ht:TrAt B1 w a_t ts) (htl:ts.length≤100000) (hmt:∀ i,i<ts.length→(ndi ts i).n.ms.length≤1000) (nd:NdV) (hok:NdOk nd.n) (B2:Nat) (hr:RdK .i64 B2 nd.n.ms (.slice nd.a nd.n.ms.length nd.c) w) (hml:nd.n.ms.length≤1000) (hc:chkT ts=true) (hs:QaD nd.n=true) (L:Nat) (hL:leaves ((ts.length:Nat):Int)=((L:Nat):Int)) (hL3:L≤32) (hlen:ts.length+1=2*L) (hTr:Qaw ((L:Nat):Int)=true) (m:Nat) (hm:m<L) (hus:(ndi ts (2*m)).n.us=true) (hf:0≤Qa7 ts nd.n.nm) (hf2:Qa7 ts nd.n.nm=((m:Nat):Int)) (hms:nd.n.ms=[]) (B3:Nat) (hr0:RdK .i64 B3 [] (.slice nd.a 0 nd.c) w):Calls Tryd.prog 28 #[.slice a_t ts.length c_t,.int .i64 ((m:Nat):Int),.agg (cat [#[.bool nd.n.us],#[.int .i64 nd.n.nm],ints .u8 (nd.n.key),ints .u8 (nd.n.sg),ints .u8 (nd.n.pa),#[.slice nd.a nd.n.ms.length nd.c]])] w (Qbw w (fun v W=>∃ us,AsC us ts∧∃ u,v=.tuple #[u,.int .i64 0]∧FrT w.heap.size (blkT (us.set (2*m) nd) (2*((m:Nat):Int)) ((L:Nat):Int)) u W∧(blkT (us.set (2*m) nd) (2*((m:Nat):Int)) ((L:Nat):Int)).length=ts.length)):=by
  refine enter 38 [(0,.slice a_t ts.length c_t),(1,.int .i64 ((m:Nat):Int)),(2,.agg (cat [#[.bool nd.n.us],#[.int .i64 nd.n.nm],ints .u8 (nd.n.key),ints .u8 (nd.n.sg),ints .u8 (nd.n.pa),#[.slice nd.a nd.n.ms.length nd.c]]))] Tryd.func28 rfl rfl kj rfl ?_
  refine wp_seq_k fun K1 hK1=>?_
  refine Qab ?_
  refine Qan (cat [#[.bool nd.n.us],#[.int .i64 nd.n.nm],ints .u8 (nd.n.key),ints .u8 (nd.n.sg),ints .u8 (nd.n.pa),#[.slice nd.a nd.n.ms.length nd.c]]) 41 5 rfl kj kj fun g2 W1 l2 e1 r2_1=>?_
  have x1:Ext w W1:=Ext.tr (Rely.Ext.refl w) e1
  have b2:w.heap.size≤g2:=qT (Rely.Ext.refl w).size l2
  refine Qaa (.slice none 0 0) 6 rfl kj kj ?_
  refine Qaa (.int .i64 0) 7 rfl kj kj ?_
  refine Qae ?_
  refine hK1 _ _ ?_
  refine wp_seq_k fun K3 hK3=>?_
  refine wp_seq_k fun K4 hK4=>?_
  refine Qab ?_
  refine Qaa (.slice a_t ts.length c_t) 9 rfl kj kj ?_
  refine Qaj (.bool true) 12 #[.slice a_t ts.length c_t] 10 rfl kj kj (Qcs ts a_t c_t _ _ (TrAt.ext ht x1) htl (fun i hi=>qT (hmt i hi) (by decide)) true hc) fun W2 e2=>?_
  have x2:Ext w W2:=Ext.tr x1 e2
  refine Qaa (.bool false) 11 rfl kj kj ?_
  refine Qaa (.bool false) 12 rfl kj kj ?_
  have r2_2:=(Qah r2_1 e2)
  refine Qaa (.agg (cat [#[.bool nd.n.us],#[.int .i64 nd.n.nm],ints .u8 (nd.n.key),ints .u8 (nd.n.sg),ints .u8 (nd.n.pa),#[.slice nd.a nd.n.ms.length nd.c]])) 13 rfl kj (Qau 41 _ g2 41 _ _ r2_2 rfl kj kj (isz (n:=99) kj (by rw [Qac,Qac,Qac,Qac,Qac,Qac]; simp only [qS,cat,((Qaf _ _).trans hok.gl),((Qaf _ _).trans hok.kl),((Qaf _ _).trans hok.pl)]; rfl))) ?_
  refine Qaj (.bool true) 43 #[.agg (cat [#[.bool nd.n.us],#[.int .i64 nd.n.nm],ints .u8 (nd.n.key),ints .u8 (nd.n.sg),ints .u8 (nd.n.pa),#[.slice nd.a nd.n.ms.length nd.c]])] 14 rfl kj kj ((hs▸Qcv nd hok _)) fun W3 e3=>?_
  have x3:Ext w W3:=Ext.tr x2 e3
  refine Qaa (.bool false) 15 rfl kj kj ?_
  refine Qaa (.bool false) 16 rfl kj kj ?_
  refine Qae ?_
  refine hK4 _ _ ?_
  refine cond_false kj ?_
  refine wp_skip ?_
  refine hK3 _ _ ?_
  refine wp_seq_k fun K5 hK5=>?_
  refine Qab ?_
  refine Qaa (.slice a_t ts.length c_t) 17 rfl kj kj ?_
  refine Qaa (.pointer (some ⟨g2,1,none⟩)) 18 rfl kj kj ?_
  have r2_3:=(Qah r2_2 e3)
  refine Qaa (.int .i64 nd.n.nm) 19 rfl kj (Qag 3 _ g2 1 41 _ (.int .i64 nd.n.nm) _ r2_3 rfl kj (Qal [#[.bool nd.n.us]] [#[.int .i64 nd.n.nm]] [ints .u8 (nd.n.key),ints .u8 (nd.n.sg),ints .u8 (nd.n.pa),#[.slice nd.a nd.n.ms.length nd.c]] 1 kj 0 _ rfl) kj) ?_
  refine Qaj (.int .i64 (Qa7 ts nd.n.nm)) 17 #[.slice a_t ts.length c_t,.int .i64 nd.n.nm] 20 rfl kj kj (Qfc ts a_t c_t _ _ (TrAt.ext ht x3) htl nd.n.nm) fun W4 e4=>?_
  have x4:Ext w W4:=Ext.tr x3 e4
  refine Qaa (.int .i64 (Qa7 ts nd.n.nm)) 8 rfl kj kj ?_
  refine Qae ?_
  refine hK5 _ _ ?_
  refine wp_seq_k fun K6 hK6=>?_
  refine wp_seq_k fun K7 hK7=>?_
  refine Qab ?_
  refine Qaa (.slice a_t ts.length c_t) 21 rfl kj kj ?_
  refine Qaa (.int .i64 ((m:Nat):Int)) 22 rfl kj kj ?_
  refine Qaj (.bool true) 57 #[.slice a_t ts.length c_t,.int .i64 ((m:Nat):Int)] 23 rfl kj kj ((hus▸QfZ ts a_t c_t _ _ (TrAt.ext ht x4) htl m (by omega) (by omega))) fun W5 e5=>?_
  have x5:Ext w W5:=Ext.tr x4 e5
  refine Qaa (.bool false) 24 rfl kj kj ?_
  refine Qaa (.bool false) 25 rfl kj kj ?_
  refine Qaa (.int .i64 (Qa7 ts nd.n.nm)) 26 rfl kj kj ?_
  refine Qaa (.bool true) 27 rfl kj (Qai (u:=.bool (decide ((Qa7 ts nd.n.nm)≥0))) kj (congrArg Value.bool (decide_eq_true (by omega)))) ?_
  refine Qaa (.bool true) 28 rfl kj kj ?_
  refine Qaa (.int .i64 (Qa7 ts nd.n.nm)) 29 rfl kj kj ?_
  refine Qaa (.int .i64 ((m:Nat):Int)) 30 rfl kj kj ?_
  refine Qaa (.bool false) 31 rfl kj (Qai (u:=.bool (((Qa7 ts nd.n.nm) != ((m:Nat):Int)))) kj (congrArg Value.bool (bne_eq_false_iff_eq.2 hf2))) ?_
  refine Qaa (.bool false) 32 rfl kj kj ?_
  refine Qaa (.bool false) 33 rfl kj kj ?_
  refine Qae ?_
  refine hK7 _ _ ?_
  refine cond_false kj ?_
  refine wp_skip ?_
  refine hK6 _ _ ?_
  refine wp_seq_k fun K8 hK8=>?_
  refine Qab ?_
  refine Qaa (.slice a_t ts.length c_t) 34 rfl kj kj ?_
  refine Qaa (.int .i64 ((m:Nat):Int)) 35 rfl kj kj ?_
  have r2_4:=(Qah r2_3 e4)
  have r2_5:=(Qah r2_4 e5)
  refine Qaa (.agg (cat [#[.bool nd.n.us],#[.int .i64 nd.n.nm],ints .u8 (nd.n.key),ints .u8 (nd.n.sg),ints .u8 (nd.n.pa),#[.slice nd.a nd.n.ms.length nd.c]])) 36 rfl kj (Qau 41 _ g2 41 _ _ r2_5 rfl kj kj (isz (n:=99) kj (by rw [Qac,Qac,Qac,Qac,Qac,Qac]; simp only [qS,cat,((Qaf _ _).trans hok.gl),((Qaf _ _).trans hok.kl),((Qaf _ _).trans hok.pl)]; rfl))) ?_
  refine Qa0 (fun v W'=>(fun v W9=>∃ us,AsC us ts∧FrT W5.heap.size (blkT (us.set (2*m) nd) (2*((m:Nat):Int)) ((L:Nat):Int)) v W9∧(blkT (us.set (2*m) nd) (2*((m:Nat):Int)) ((L:Nat):Int)).length=ts.length∧∃ a c,v=.slice a ts.length c∧ts.length≤c) v W'∧Ext W5 W') 58 #[.slice a_t ts.length c_t,.int .i64 ((m:Nat):Int),.agg (cat [#[.bool nd.n.us],#[.int .i64 nd.n.nm],ints .u8 (nd.n.key),ints .u8 (nd.n.sg),ints .u8 (nd.n.pa),#[.slice nd.a nd.n.ms.length nd.c]])] 37 rfl kj kj ((QfL ts a_t _ _ _ (TrAt.ext ht x5) htl hmt L hL hL3 hlen hTr m hm nd hok hms _ (rdE hr0)).mono (by rintro e w' ⟨v,rfl,e1,hv⟩; exact ⟨v,rfl,hv,e1⟩)) fun vv9 W6 hh9=>?_
  obtain ⟨hv9,e6⟩:=hh9
  have x6:Ext w W6:=Ext.tr x5 e6
  obtain ⟨us,has,hfr,hfl,-⟩:=hv9
  refine Qaa (vv9) 6 rfl kj kj ?_
  refine Qaa (.int .i64 0) 7 rfl kj kj ?_
  refine Qae ?_
  refine hK8 _ _ ?_
  refine wp_ret ?_
  repeat (first | with_reducible refine goR1 ?_ | with_reducible refine goR2 ?_)
  exact (show bodyPost _ _ _ .ret _ _ from ret2 (vv9) (.int .i64 0) rfl (Qam kj) (Qam kj) ⟨_,rfl,x6,us,has,_,rfl,FrT.low hfr x5.size,hfl⟩)
end Go.Proofs.YtcmaolmofgmkhaaDoor.Te
end
section
namespace Go.Proofs.YtcmaolmofgmkhaaDoor.Te
open Go Go.RowKit
open Rely Auto Own Seat Sha
section
variable {P : Program} {ρ : Operand → Value} {o : Oper} {w : World}
theorem QgO (t : TypeId) (x y:Operand) (h:Nat) (e:TypeId) (ho:o.op=.slice t x none (some y) none) {a:Option Addr} {len cap:Nat} (hx:ρ x=.slice a len cap)
    (hu:P.underlying t=some (.slice e)) (ky:IntKind) (hy:ρ y=.int ky (h:Int)) (sz:Nat) (hs:(P.info? e).map (·.size)=some sz) (h2:h≤cap) :
    (execOp ρ o).run P w=.ok (.value (.slice a h cap)) w:=by
  cases hq:P.info? e with
  | none=>simp [hq] at hs
  | some i =>
    have hs':i.size=sz:=by simpa [hq] using hs
    unfold execOp
    have hadd:∀ a:Option Addr,Option.map (fun x=>x.add 0) a=a:=fun a=>by
      cases a with
      | none=>rfl
      | some a=>obtain ⟨b,o,s⟩:=a; cases s <;> simp [Addr.add]
    simp [ho,hx,hy,Instr.sliceAt,Instr.slice,Instr.sliceBounds,run_sliceBound,run_underlying hu,sizeOf,typeInfo,hq,hs',h2,hadd]
end
theorem Qlw {M : Nat} (ts:List NdV) (a_t:Option Addr) (c_t B1:Nat) (w:World) (ht:TrAt B1 w a_t ts) (hM:ts.length=M) (htl:ts.length≤100000) (k:Nat) (hk:k≤100000):Calls Tryd.prog 41 #[.slice a_t M c_t,.int .i64 ((k:Nat):Int)] w (Ret w (.bool (anyU ts k))):=by
  subst hM
  exact Qkf ts a_t c_t B1 w ht htl k hk
set_option maxRecDepth 100000 in
theorem QhA (ts : List NdV) (a_t:Option Addr) (c_t B1:Nat) (w:World) (ht:TrAt B1 w a_t ts) (htl:ts.length≤100000) (hmt:∀ i,i<ts.length→(ndi ts i).n.ms.length≤1000) (hc:chkT ts=false) (n:Int):Calls Tryd.prog 30 #[.slice a_t ts.length c_t,.int .i64 n] w (Ret w (.tuple #[.slice none 0 0,.int .i64 3])):=by
  refine enter 50 [(0,.slice a_t ts.length c_t),(1,.int .i64 n)] Tryd.func30 rfl rfl kj rfl ?_
  refine wp_seq_k fun K1 hK1=>?_
  refine Qab ?_
  refine Qaa (.slice none 0 0) 4 rfl kj kj ?_
  refine Qaa (.int .i64 0) 5 rfl kj kj ?_
  refine Qae ?_
  refine hK1 _ _ ?_
  refine wp_seq_k fun K2 hK2=>?_
  refine wp_seq_k fun K3 hK3=>?_
  refine Qab ?_
  refine Qaa (.slice a_t ts.length c_t) 9 rfl kj kj ?_
  refine Qaj (.bool false) 12 #[.slice a_t ts.length c_t] 10 rfl kj kj (Qcs ts a_t c_t _ _ (TrAt.ext ht (Rely.Ext.refl w)) htl (fun i hi=>qT (hmt i hi) (by decide)) false hc) fun W1 e1=>?_
  have x1:Ext w W1:=Ext.tr (Rely.Ext.refl w) e1
  refine Qaa (.bool true) 11 rfl kj kj ?_
  refine Qae ?_
  refine hK3 _ _ ?_
  refine cond_true kj ?_
  refine wp_seq_k fun K4 hK4=>?_
  refine Qab ?_
  refine Qaa (.slice none 0 0) 4 rfl kj kj ?_
  refine Qaa (.int .i64 3) 5 rfl kj kj ?_
  refine Qae ?_
  refine hK4 _ _ ?_
  refine wp_ret ?_
  repeat (first | with_reducible refine goR1 ?_ | with_reducible refine goR2 ?_)
  exact (show bodyPost _ _ _ .ret _ _ from ret2 (.slice none 0 0) (.int .i64 3) rfl (Qam kj) (Qam kj) ⟨rfl,x1⟩)
set_option maxRecDepth 100000 in
theorem Qfx (ts : List NdV) (a_t:Option Addr) (c_t B1:Nat) (w:World) (ht:TrAt B1 w a_t ts) (htl:ts.length≤100000) (hmt:∀ i,i<ts.length→(ndi ts i).n.ms.length≤1000) (hc:chkT ts=true) (L:Nat) (hL:leaves ((ts.length:Nat):Int)=((L:Nat):Int)) (hL3:L≤32) (hlen:ts.length+1=2*L) (hTr:Qaw ((L:Nat):Int)=true) (n:Int) (hn:n<0∨((L:Nat):Int)≤n):Calls Tryd.prog 30 #[.slice a_t ts.length c_t,.int .i64 n] w (Ret w (.tuple #[.slice none 0 0,.int .i64 9])):=by
 refine enter 50 [(0,.slice a_t ts.length c_t),(1,.int .i64 n)] Tryd.func30 rfl rfl kj rfl ?_
 refine wp_seq_k fun K1 hK1=>?_
 refine Qab ?_
 refine Qaa (.slice none 0 0) 4 rfl kj kj ?_
 refine Qaa (.int .i64 0) 5 rfl kj kj ?_
 refine Qae ?_
 refine hK1 _ _ ?_
 refine wp_seq_k fun K2 hK2=>?_
 refine wp_seq_k fun K3 hK3=>?_
 refine Qab ?_
 refine Qaa (.slice a_t ts.length c_t) 9 rfl kj kj ?_
 refine Qaj (.bool true) 12 #[.slice a_t ts.length c_t] 10 rfl kj kj (Qcs ts a_t c_t _ _ (TrAt.ext ht (Rely.Ext.refl w)) htl (fun i hi=>qT (hmt i hi) (by decide)) true hc) fun W1 e1=>?_
 have x1:Ext w W1:=Ext.tr (Rely.Ext.refl w) e1
 refine Qaa (.bool false) 11 rfl kj kj ?_
 refine Qae ?_
 refine hK3 _ _ ?_
 refine cond_false kj ?_
 refine wp_skip ?_
 refine hK2 _ _ ?_
 refine wp_seq_k fun K4 hK4=>?_
 refine Qab ?_
 refine Qaa (.int .i64 0) 6 rfl kj kj ?_
 refine Qae ?_
 refine hK4 _ _ ?_
 refine wp_seq_k fun K5 hK5=>?_
 refine wp_seq_k fun K6 hK6=>?_
 refine Qab ?_
 refine Qaa (.int .i64 0) 7 rfl kj kj ?_
 refine Qae ?_
 refine hK6 _ _ ?_
 refine wp_block ?_
 refine Qaz (fun (s1:Nat)=>[(0,.slice a_t ts.length c_t),(1,.int .i64 n),(6,.int .i64 (((QaF ts s1).length:Nat):Int)),(7,.int .i64 ((2*s1:Nat):Int))]) (fun (s1:Nat) W=>(s1≤L)∧(Ext W1 W)∧(Ext w W)) (fun (s1:Nat)=>L+1-s1) 0 ⟨rfl,rfl,rfl,rfl,trivial⟩ ⟨(Nat.zero_le _),(Rely.Ext.refl W1),x1⟩ fun s1 X1 V1 hI1=>?_
 obtain ⟨k,hs1⟩:∃ z,z=s1:=⟨_,rfl⟩
 subst hs1
 obtain ⟨hkl,kk1,xx1⟩:=hI1
 replace hkl:k≤L:=hkl
 replace kk1:Ext W1 V1:=kk1
 replace xx1:Ext w V1:=xx1
 have e2:=kk1
 refine wp_seq_k fun K7 hK7=>?_
 refine wp_seq_k fun K8 hK8=>?_
 refine Qab ?_
 refine Qaa (.int .i64 ((2*k:Nat):Int)) 12 rfl kj kj ?_
 refine Qaa (.slice a_t ts.length c_t) 13 rfl kj kj ?_
 refine Qaa (.int .i64 ((ts.length:Nat):Int)) 14 rfl kj kj ?_
 refine Qaa (.bool (decide (((2*k:Nat):Int)<((ts.length:Nat):Int)))) 15 rfl kj kj ?_
 refine Qae ?_
 refine hK8 _ _ ?_
 refine Qas (t:=decide (((2*k:Nat):Int)<((ts.length:Nat):Int))) kj (fun c9=>?_) (fun c9=>?_)
 ·skip
  have h15:2*k<ts.length:=by have:=of_decide_eq_true c9; omega
  refine wp_skip ?_
  refine hK7 _ _ ?_
  refine wp_seq_k fun K10 hK10=>?_
  refine wp_block ?_
  refine wp_seq_k fun K11 hK11=>?_
  refine Qab ?_
  refine Qaa (.slice a_t ts.length c_t) 18 rfl kj kj ?_
  refine Qaa (.int .i64 ((2*k:Nat):Int)) 19 rfl kj kj ?_
  obtain ⟨gtT,otT,hat,hnts⟩:=TrAt.ext ht xx1
  have hnt:=hnts (2*k) (by omega)
  obtain ⟨nt,ent⟩:∃ z,z=ndi ts (2*k):=⟨_,rfl⟩
  rw [←ent] at hnt
  have okt:=hnt.ok
  have rdt:=hnt.rd
  refine Qaa (.pointer (some ⟨gtT,otT+(2*k)*99,none⟩)) 20 rfl kj (Qao 23 _ _ .i64 (2*k) gtT otT ts.length c_t 41 99 a_t (hat (by omega)) rfl kj kj kj kj (by omega)) ?_
  refine Qaa (.pointer (some ⟨gtT,otT+(2*k)*99,none⟩)) 21 rfl kj kj ?_
  refine Qaa (.bool nt.n.us) 22 rfl kj (Qak 4 _ _ (.bool nt.n.us) (NdAt.at3 hnt).1 rfl kj kj) ?_
  refine Qae ?_
  refine hK11 _ _ ?_
  refine Qas (t:=nt.n.us) kj (fun c12=>?_) (fun c12=>?_)
  ·skip
   have hcn:(ndi ts (2*k)).n.us=true:=ent▸c12
   have hul:=Qbs ts k
   refine Qab ?_
   refine Qaa (.int .i64 (((QaF ts k).length:Nat):Int)) 23 rfl kj kj ?_
   refine Qaa (.int .i64 ((((QaF ts k).length+1:Nat):Int))) 24 rfl kj (Qai (u:=.int .i64 (IntKind.i64.wrap ((((QaF ts k).length:Nat):Int)+1))) kj (congrArg (Value.int .i64) (i64n _ _ (by omega) (by omega)))) ?_
   refine Qaa (.int .i64 ((((QaF ts k).length+1:Nat):Int))) 6 rfl kj kj ?_
   refine Qae ?_
   refine hK10 _ _ ?_
   refine Qab ?_
   refine Qaa (.int .i64 ((2*k:Nat):Int)) 16 rfl kj kj ?_
   refine Qaa (.int .i64 (((2*(k+1):Nat):Int))) 17 rfl kj (Qai (u:=.int .i64 (IntKind.i64.wrap (((2*k:Nat):Int)+2))) kj (congrArg (Value.int .i64) ((IntWalk.i64_in _ (by omega)).trans (by omega)))) ?_
   refine Qaa (.int .i64 (((2*(k+1):Nat):Int))) 7 rfl kj kj ?_
   refine Qae ?_
   have hul2:(QaF ts (k+1)).length=(QaF ts k).length+1:=by rw [QbV hcn]; simp
   rw [←hul2]
   repeat (first | with_reducible refine goX1 ?_ | with_reducible refine goX2 ?_ | with_reducible refine goX3 ?_)
   exact Qaq (k+1) ⟨rfl,rfl,rfl,rfl,trivial⟩ ⟨(by omega),e2,xx1⟩ (by show L+1-(k+1)<L+1-k; omega)
  ·skip
   have hcn:(ndi ts (2*k)).n.us=false:=ent▸c12
   have hul:=Qbs ts k
   refine wp_skip ?_
   refine hK10 _ _ ?_
   refine Qab ?_
   refine Qaa (.int .i64 ((2*k:Nat):Int)) 16 rfl kj kj ?_
   refine Qaa (.int .i64 (((2*(k+1):Nat):Int))) 17 rfl kj (Qai (u:=.int .i64 (IntKind.i64.wrap (((2*k:Nat):Int)+2))) kj (congrArg (Value.int .i64) ((IntWalk.i64_in _ (by omega)).trans (by omega)))) ?_
   refine Qaa (.int .i64 (((2*(k+1):Nat):Int))) 7 rfl kj kj ?_
   refine Qae ?_
   have hul2:(QaF ts (k+1)).length=(QaF ts k).length:=by rw [Qcl hcn]
   rw [←hul2]
   repeat (first | with_reducible refine goX1 ?_ | with_reducible refine goX2 ?_ | with_reducible refine goX3 ?_)
   exact Qaq (k+1) ⟨rfl,rfl,rfl,rfl,trivial⟩ ⟨(by omega),e2,xx1⟩ (by show L+1-(k+1)<L+1-k; omega)
 ·skip
  have hkL:k=L:=by have:=of_decide_eq_false c9; omega
  refine wp_exit ?_
  refine hK5 _ _ ?_
  refine wp_seq_k fun K13 hK13=>?_
  refine wp_seq_k fun K14 hK14=>?_
  refine Qab ?_
  refine Qaa (.slice a_t ts.length c_t) 25 rfl kj kj ?_
  refine Qaa (.int .i64 n) 26 rfl kj kj ?_
  refine Qaj (.bool false) 57 #[.slice a_t ts.length c_t,.int .i64 n] 27 rfl kj kj (atN ts a_t c_t _ _ (TrAt.ext ht xx1) htl L hlen hL3 n hn) fun W3 e3=>?_
  have x3:Ext w W3:=Ext.tr xx1 e3
  refine Qaa (.bool true) 28 rfl kj kj ?_
  refine Qaa (.bool true) 29 rfl kj kj ?_
  refine Qad 30 rfl kj ?_
  refine Qad 31 rfl kj ?_
  refine Qaa (.bool true) 32 rfl kj kj ?_
  refine Qae ?_
  refine hK14 _ _ ?_
  refine cond_true kj ?_
  refine wp_seq_k fun K15 hK15=>?_
  refine Qab ?_
  refine Qaa (.slice none 0 0) 4 rfl kj kj ?_
  refine Qaa (.int .i64 9) 5 rfl kj kj ?_
  refine Qae ?_
  refine hK15 _ _ ?_
  refine wp_ret ?_
  repeat (first | with_reducible refine goR1 ?_ | with_reducible refine goR2 ?_)
  exact (show bodyPost _ _ _ .ret _ _ from ret2 (.slice none 0 0) (.int .i64 9) rfl (Qam kj) (Qam kj) ⟨rfl,x3⟩)
set_option maxRecDepth 100000 in
theorem QhC (ts : List NdV) (a_t:Option Addr) (c_t B1:Nat) (w:World) (ht:TrAt B1 w a_t ts) (htl:ts.length≤100000) (hmt:∀ i,i<ts.length→(ndi ts i).n.ms.length≤1000) (hc:chkT ts=true) (L:Nat) (hL:leaves ((ts.length:Nat):Int)=((L:Nat):Int)) (hL3:L≤32) (hlen:ts.length+1=2*L) (hTr:Qaw ((L:Nat):Int)=true) (m:Nat) (hm:m<L) (hus:(ndi ts (2*m)).n.us=false):Calls Tryd.prog 30 #[.slice a_t ts.length c_t,.int .i64 ((m:Nat):Int)] w (Ret w (.tuple #[.slice none 0 0,.int .i64 9])):=by
 refine enter 50 [(0,.slice a_t ts.length c_t),(1,.int .i64 ((m:Nat):Int))] Tryd.func30 rfl rfl kj rfl ?_
 refine wp_seq_k fun K1 hK1=>?_
 refine Qab ?_
 refine Qaa (.slice none 0 0) 4 rfl kj kj ?_
 refine Qaa (.int .i64 0) 5 rfl kj kj ?_
 refine Qae ?_
 refine hK1 _ _ ?_
 refine wp_seq_k fun K2 hK2=>?_
 refine wp_seq_k fun K3 hK3=>?_
 refine Qab ?_
 refine Qaa (.slice a_t ts.length c_t) 9 rfl kj kj ?_
 refine Qaj (.bool true) 12 #[.slice a_t ts.length c_t] 10 rfl kj kj (Qcs ts a_t c_t _ _ (TrAt.ext ht (Rely.Ext.refl w)) htl (fun i hi=>qT (hmt i hi) (by decide)) true hc) fun W1 e1=>?_
 have x1:Ext w W1:=Ext.tr (Rely.Ext.refl w) e1
 refine Qaa (.bool false) 11 rfl kj kj ?_
 refine Qae ?_
 refine hK3 _ _ ?_
 refine cond_false kj ?_
 refine wp_skip ?_
 refine hK2 _ _ ?_
 refine wp_seq_k fun K4 hK4=>?_
 refine Qab ?_
 refine Qaa (.int .i64 0) 6 rfl kj kj ?_
 refine Qae ?_
 refine hK4 _ _ ?_
 refine wp_seq_k fun K5 hK5=>?_
 refine wp_seq_k fun K6 hK6=>?_
 refine Qab ?_
 refine Qaa (.int .i64 0) 7 rfl kj kj ?_
 refine Qae ?_
 refine hK6 _ _ ?_
 refine wp_block ?_
 refine Qaz (fun (s1:Nat)=>[(0,.slice a_t ts.length c_t),(1,.int .i64 ((m:Nat):Int)),(6,.int .i64 (((QaF ts s1).length:Nat):Int)),(7,.int .i64 ((2*s1:Nat):Int))]) (fun (s1:Nat) W=>(s1≤L)∧(Ext W1 W)∧(Ext w W)) (fun (s1:Nat)=>L+1-s1) 0 ⟨rfl,rfl,rfl,rfl,trivial⟩ ⟨(Nat.zero_le _),(Rely.Ext.refl W1),x1⟩ fun s1 X1 V1 hI1=>?_
 obtain ⟨k,hs1⟩:∃ z,z=s1:=⟨_,rfl⟩
 subst hs1
 obtain ⟨hkl,kk1,xx1⟩:=hI1
 replace hkl:k≤L:=hkl
 replace kk1:Ext W1 V1:=kk1
 replace xx1:Ext w V1:=xx1
 have e2:=kk1
 refine wp_seq_k fun K7 hK7=>?_
 refine wp_seq_k fun K8 hK8=>?_
 refine Qab ?_
 refine Qaa (.int .i64 ((2*k:Nat):Int)) 12 rfl kj kj ?_
 refine Qaa (.slice a_t ts.length c_t) 13 rfl kj kj ?_
 refine Qaa (.int .i64 ((ts.length:Nat):Int)) 14 rfl kj kj ?_
 refine Qaa (.bool (decide (((2*k:Nat):Int)<((ts.length:Nat):Int)))) 15 rfl kj kj ?_
 refine Qae ?_
 refine hK8 _ _ ?_
 refine Qas (t:=decide (((2*k:Nat):Int)<((ts.length:Nat):Int))) kj (fun c9=>?_) (fun c9=>?_)
 ·skip
  have h15:2*k<ts.length:=by have:=of_decide_eq_true c9; omega
  refine wp_skip ?_
  refine hK7 _ _ ?_
  refine wp_seq_k fun K10 hK10=>?_
  refine wp_block ?_
  refine wp_seq_k fun K11 hK11=>?_
  refine Qab ?_
  refine Qaa (.slice a_t ts.length c_t) 18 rfl kj kj ?_
  refine Qaa (.int .i64 ((2*k:Nat):Int)) 19 rfl kj kj ?_
  obtain ⟨gtT,otT,hat,hnts⟩:=TrAt.ext ht xx1
  have hnt:=hnts (2*k) (by omega)
  obtain ⟨nt,ent⟩:∃ z,z=ndi ts (2*k):=⟨_,rfl⟩
  rw [←ent] at hnt
  have okt:=hnt.ok
  have rdt:=hnt.rd
  refine Qaa (.pointer (some ⟨gtT,otT+(2*k)*99,none⟩)) 20 rfl kj (Qao 23 _ _ .i64 (2*k) gtT otT ts.length c_t 41 99 a_t (hat (by omega)) rfl kj kj kj kj (by omega)) ?_
  refine Qaa (.pointer (some ⟨gtT,otT+(2*k)*99,none⟩)) 21 rfl kj kj ?_
  refine Qaa (.bool nt.n.us) 22 rfl kj (Qak 4 _ _ (.bool nt.n.us) (NdAt.at3 hnt).1 rfl kj kj) ?_
  refine Qae ?_
  refine hK11 _ _ ?_
  refine Qas (t:=nt.n.us) kj (fun c12=>?_) (fun c12=>?_)
  ·skip
   have hcn:(ndi ts (2*k)).n.us=true:=ent▸c12
   have hul:=Qbs ts k
   refine Qab ?_
   refine Qaa (.int .i64 (((QaF ts k).length:Nat):Int)) 23 rfl kj kj ?_
   refine Qaa (.int .i64 ((((QaF ts k).length+1:Nat):Int))) 24 rfl kj (Qai (u:=.int .i64 (IntKind.i64.wrap ((((QaF ts k).length:Nat):Int)+1))) kj (congrArg (Value.int .i64) (i64n _ _ (by omega) (by omega)))) ?_
   refine Qaa (.int .i64 ((((QaF ts k).length+1:Nat):Int))) 6 rfl kj kj ?_
   refine Qae ?_
   refine hK10 _ _ ?_
   refine Qab ?_
   refine Qaa (.int .i64 ((2*k:Nat):Int)) 16 rfl kj kj ?_
   refine Qaa (.int .i64 (((2*(k+1):Nat):Int))) 17 rfl kj (Qai (u:=.int .i64 (IntKind.i64.wrap (((2*k:Nat):Int)+2))) kj (congrArg (Value.int .i64) ((IntWalk.i64_in _ (by omega)).trans (by omega)))) ?_
   refine Qaa (.int .i64 (((2*(k+1):Nat):Int))) 7 rfl kj kj ?_
   refine Qae ?_
   have hul2:(QaF ts (k+1)).length=(QaF ts k).length+1:=by rw [QbV hcn]; simp
   rw [←hul2]
   repeat (first | with_reducible refine goX1 ?_ | with_reducible refine goX2 ?_ | with_reducible refine goX3 ?_)
   exact Qaq (k+1) ⟨rfl,rfl,rfl,rfl,trivial⟩ ⟨(by omega),e2,xx1⟩ (by show L+1-(k+1)<L+1-k; omega)
  ·skip
   have hcn:(ndi ts (2*k)).n.us=false:=ent▸c12
   have hul:=Qbs ts k
   refine wp_skip ?_
   refine hK10 _ _ ?_
   refine Qab ?_
   refine Qaa (.int .i64 ((2*k:Nat):Int)) 16 rfl kj kj ?_
   refine Qaa (.int .i64 (((2*(k+1):Nat):Int))) 17 rfl kj (Qai (u:=.int .i64 (IntKind.i64.wrap (((2*k:Nat):Int)+2))) kj (congrArg (Value.int .i64) ((IntWalk.i64_in _ (by omega)).trans (by omega)))) ?_
   refine Qaa (.int .i64 (((2*(k+1):Nat):Int))) 7 rfl kj kj ?_
   refine Qae ?_
   have hul2:(QaF ts (k+1)).length=(QaF ts k).length:=by rw [Qcl hcn]
   rw [←hul2]
   repeat (first | with_reducible refine goX1 ?_ | with_reducible refine goX2 ?_ | with_reducible refine goX3 ?_)
   exact Qaq (k+1) ⟨rfl,rfl,rfl,rfl,trivial⟩ ⟨(by omega),e2,xx1⟩ (by show L+1-(k+1)<L+1-k; omega)
 ·skip
  have hkL:k=L:=by have:=of_decide_eq_false c9; omega
  refine wp_exit ?_
  refine hK5 _ _ ?_
  refine wp_seq_k fun K13 hK13=>?_
  refine wp_seq_k fun K14 hK14=>?_
  refine Qab ?_
  refine Qaa (.slice a_t ts.length c_t) 25 rfl kj kj ?_
  refine Qaa (.int .i64 ((m:Nat):Int)) 26 rfl kj kj ?_
  refine Qaj (.bool false) 57 #[.slice a_t ts.length c_t,.int .i64 ((m:Nat):Int)] 27 rfl kj kj ((hus▸QfZ ts a_t c_t _ _ (TrAt.ext ht xx1) htl m (by omega) (by omega))) fun W3 e3=>?_
  have x3:Ext w W3:=Ext.tr xx1 e3
  refine Qaa (.bool true) 28 rfl kj kj ?_
  refine Qaa (.bool true) 29 rfl kj kj ?_
  refine Qad 30 rfl kj ?_
  refine Qad 31 rfl kj ?_
  refine Qaa (.bool true) 32 rfl kj kj ?_
  refine Qae ?_
  refine hK14 _ _ ?_
  refine cond_true kj ?_
  refine wp_seq_k fun K15 hK15=>?_
  refine Qab ?_
  refine Qaa (.slice none 0 0) 4 rfl kj kj ?_
  refine Qaa (.int .i64 9) 5 rfl kj kj ?_
  refine Qae ?_
  refine hK15 _ _ ?_
  refine wp_ret ?_
  repeat (first | with_reducible refine goR1 ?_ | with_reducible refine goR2 ?_)
  exact (show bodyPost _ _ _ .ret _ _ from ret2 (.slice none 0 0) (.int .i64 9) rfl (Qam kj) (Qam kj) ⟨rfl,x3⟩)
set_option maxRecDepth 100000 in
theorem QhB (ts : List NdV) (a_t:Option Addr) (c_t B1:Nat) (w:World) (ht:TrAt B1 w a_t ts) (htl:ts.length≤100000) (hmt:∀ i,i<ts.length→(ndi ts i).n.ms.length≤1000) (hc:chkT ts=true) (L:Nat) (hL:leaves ((ts.length:Nat):Int)=((L:Nat):Int)) (hL3:L≤32) (hlen:ts.length+1=2*L) (hTr:Qaw ((L:Nat):Int)=true) (m:Nat) (hm:m<L) (hus:(ndi ts (2*m)).n.us=true) (hal:((((QaF ts L).length:Nat):Int)==1)=true):Calls Tryd.prog 30 #[.slice a_t ts.length c_t,.int .i64 ((m:Nat):Int)] w (Ret w (.tuple #[.slice none 0 0,.int .i64 9])):=by
 refine enter 50 [(0,.slice a_t ts.length c_t),(1,.int .i64 ((m:Nat):Int))] Tryd.func30 rfl rfl kj rfl ?_
 refine wp_seq_k fun K1 hK1=>?_
 refine Qab ?_
 refine Qaa (.slice none 0 0) 4 rfl kj kj ?_
 refine Qaa (.int .i64 0) 5 rfl kj kj ?_
 refine Qae ?_
 refine hK1 _ _ ?_
 refine wp_seq_k fun K2 hK2=>?_
 refine wp_seq_k fun K3 hK3=>?_
 refine Qab ?_
 refine Qaa (.slice a_t ts.length c_t) 9 rfl kj kj ?_
 refine Qaj (.bool true) 12 #[.slice a_t ts.length c_t] 10 rfl kj kj (Qcs ts a_t c_t _ _ (TrAt.ext ht (Rely.Ext.refl w)) htl (fun i hi=>qT (hmt i hi) (by decide)) true hc) fun W1 e1=>?_
 have x1:Ext w W1:=Ext.tr (Rely.Ext.refl w) e1
 refine Qaa (.bool false) 11 rfl kj kj ?_
 refine Qae ?_
 refine hK3 _ _ ?_
 refine cond_false kj ?_
 refine wp_skip ?_
 refine hK2 _ _ ?_
 refine wp_seq_k fun K4 hK4=>?_
 refine Qab ?_
 refine Qaa (.int .i64 0) 6 rfl kj kj ?_
 refine Qae ?_
 refine hK4 _ _ ?_
 refine wp_seq_k fun K5 hK5=>?_
 refine wp_seq_k fun K6 hK6=>?_
 refine Qab ?_
 refine Qaa (.int .i64 0) 7 rfl kj kj ?_
 refine Qae ?_
 refine hK6 _ _ ?_
 refine wp_block ?_
 refine Qaz (fun (s1:Nat)=>[(0,.slice a_t ts.length c_t),(1,.int .i64 ((m:Nat):Int)),(6,.int .i64 (((QaF ts s1).length:Nat):Int)),(7,.int .i64 ((2*s1:Nat):Int))]) (fun (s1:Nat) W=>(s1≤L)∧(Ext W1 W)∧(Ext w W)) (fun (s1:Nat)=>L+1-s1) 0 ⟨rfl,rfl,rfl,rfl,trivial⟩ ⟨(Nat.zero_le _),(Rely.Ext.refl W1),x1⟩ fun s1 X1 V1 hI1=>?_
 obtain ⟨k,hs1⟩:∃ z,z=s1:=⟨_,rfl⟩
 subst hs1
 obtain ⟨hkl,kk1,xx1⟩:=hI1
 replace hkl:k≤L:=hkl
 replace kk1:Ext W1 V1:=kk1
 replace xx1:Ext w V1:=xx1
 have e2:=kk1
 refine wp_seq_k fun K7 hK7=>?_
 refine wp_seq_k fun K8 hK8=>?_
 refine Qab ?_
 refine Qaa (.int .i64 ((2*k:Nat):Int)) 12 rfl kj kj ?_
 refine Qaa (.slice a_t ts.length c_t) 13 rfl kj kj ?_
 refine Qaa (.int .i64 ((ts.length:Nat):Int)) 14 rfl kj kj ?_
 refine Qaa (.bool (decide (((2*k:Nat):Int)<((ts.length:Nat):Int)))) 15 rfl kj kj ?_
 refine Qae ?_
 refine hK8 _ _ ?_
 refine Qas (t:=decide (((2*k:Nat):Int)<((ts.length:Nat):Int))) kj (fun c9=>?_) (fun c9=>?_)
 ·skip
  have h15:2*k<ts.length:=by have:=of_decide_eq_true c9; omega
  refine wp_skip ?_
  refine hK7 _ _ ?_
  refine wp_seq_k fun K10 hK10=>?_
  refine wp_block ?_
  refine wp_seq_k fun K11 hK11=>?_
  refine Qab ?_
  refine Qaa (.slice a_t ts.length c_t) 18 rfl kj kj ?_
  refine Qaa (.int .i64 ((2*k:Nat):Int)) 19 rfl kj kj ?_
  obtain ⟨gtT,otT,hat,hnts⟩:=TrAt.ext ht xx1
  have hnt:=hnts (2*k) (by omega)
  obtain ⟨nt,ent⟩:∃ z,z=ndi ts (2*k):=⟨_,rfl⟩
  rw [←ent] at hnt
  have okt:=hnt.ok
  have rdt:=hnt.rd
  refine Qaa (.pointer (some ⟨gtT,otT+(2*k)*99,none⟩)) 20 rfl kj (Qao 23 _ _ .i64 (2*k) gtT otT ts.length c_t 41 99 a_t (hat (by omega)) rfl kj kj kj kj (by omega)) ?_
  refine Qaa (.pointer (some ⟨gtT,otT+(2*k)*99,none⟩)) 21 rfl kj kj ?_
  refine Qaa (.bool nt.n.us) 22 rfl kj (Qak 4 _ _ (.bool nt.n.us) (NdAt.at3 hnt).1 rfl kj kj) ?_
  refine Qae ?_
  refine hK11 _ _ ?_
  refine Qas (t:=nt.n.us) kj (fun c12=>?_) (fun c12=>?_)
  ·skip
   have hcn:(ndi ts (2*k)).n.us=true:=ent▸c12
   have hul:=Qbs ts k
   refine Qab ?_
   refine Qaa (.int .i64 (((QaF ts k).length:Nat):Int)) 23 rfl kj kj ?_
   refine Qaa (.int .i64 ((((QaF ts k).length+1:Nat):Int))) 24 rfl kj (Qai (u:=.int .i64 (IntKind.i64.wrap ((((QaF ts k).length:Nat):Int)+1))) kj (congrArg (Value.int .i64) (i64n _ _ (by omega) (by omega)))) ?_
   refine Qaa (.int .i64 ((((QaF ts k).length+1:Nat):Int))) 6 rfl kj kj ?_
   refine Qae ?_
   refine hK10 _ _ ?_
   refine Qab ?_
   refine Qaa (.int .i64 ((2*k:Nat):Int)) 16 rfl kj kj ?_
   refine Qaa (.int .i64 (((2*(k+1):Nat):Int))) 17 rfl kj (Qai (u:=.int .i64 (IntKind.i64.wrap (((2*k:Nat):Int)+2))) kj (congrArg (Value.int .i64) ((IntWalk.i64_in _ (by omega)).trans (by omega)))) ?_
   refine Qaa (.int .i64 (((2*(k+1):Nat):Int))) 7 rfl kj kj ?_
   refine Qae ?_
   have hul2:(QaF ts (k+1)).length=(QaF ts k).length+1:=by rw [QbV hcn]; simp
   rw [←hul2]
   repeat (first | with_reducible refine goX1 ?_ | with_reducible refine goX2 ?_ | with_reducible refine goX3 ?_)
   exact Qaq (k+1) ⟨rfl,rfl,rfl,rfl,trivial⟩ ⟨(by omega),e2,xx1⟩ (by show L+1-(k+1)<L+1-k; omega)
  ·skip
   have hcn:(ndi ts (2*k)).n.us=false:=ent▸c12
   have hul:=Qbs ts k
   refine wp_skip ?_
   refine hK10 _ _ ?_
   refine Qab ?_
   refine Qaa (.int .i64 ((2*k:Nat):Int)) 16 rfl kj kj ?_
   refine Qaa (.int .i64 (((2*(k+1):Nat):Int))) 17 rfl kj (Qai (u:=.int .i64 (IntKind.i64.wrap (((2*k:Nat):Int)+2))) kj (congrArg (Value.int .i64) ((IntWalk.i64_in _ (by omega)).trans (by omega)))) ?_
   refine Qaa (.int .i64 (((2*(k+1):Nat):Int))) 7 rfl kj kj ?_
   refine Qae ?_
   have hul2:(QaF ts (k+1)).length=(QaF ts k).length:=by rw [Qcl hcn]
   rw [←hul2]
   repeat (first | with_reducible refine goX1 ?_ | with_reducible refine goX2 ?_ | with_reducible refine goX3 ?_)
   exact Qaq (k+1) ⟨rfl,rfl,rfl,rfl,trivial⟩ ⟨(by omega),e2,xx1⟩ (by show L+1-(k+1)<L+1-k; omega)
 ·skip
  have hkL:k=L:=by have:=of_decide_eq_false c9; omega
  refine wp_exit ?_
  refine hK5 _ _ ?_
  refine wp_seq_k fun K13 hK13=>?_
  refine wp_seq_k fun K14 hK14=>?_
  refine Qab ?_
  refine Qaa (.slice a_t ts.length c_t) 25 rfl kj kj ?_
  refine Qaa (.int .i64 ((m:Nat):Int)) 26 rfl kj kj ?_
  refine Qaj (.bool true) 57 #[.slice a_t ts.length c_t,.int .i64 ((m:Nat):Int)] 27 rfl kj kj ((hus▸QfZ ts a_t c_t _ _ (TrAt.ext ht xx1) htl m (by omega) (by omega))) fun W3 e3=>?_
  have x3:Ext w W3:=Ext.tr xx1 e3
  refine Qaa (.bool false) 28 rfl kj kj ?_
  refine Qaa (.bool false) 29 rfl kj kj ?_
  refine Qaa (.int .i64 (((QaF ts k).length:Nat):Int)) 30 rfl kj kj ?_
  refine Qaa (.bool true) 31 rfl kj (Qai (u:=.bool (((((QaF ts k).length:Nat):Int)==1))) kj (congrArg Value.bool (by rw [hkL]; exact hal))) ?_
  refine Qaa (.bool true) 32 rfl kj kj ?_
  refine Qae ?_
  refine hK14 _ _ ?_
  refine cond_true kj ?_
  refine wp_seq_k fun K15 hK15=>?_
  refine Qab ?_
  refine Qaa (.slice none 0 0) 4 rfl kj kj ?_
  refine Qaa (.int .i64 9) 5 rfl kj kj ?_
  refine Qae ?_
  refine hK15 _ _ ?_
  refine wp_ret ?_
  repeat (first | with_reducible refine goR1 ?_ | with_reducible refine goR2 ?_)
  exact (show bodyPost _ _ _ .ret _ _ from ret2 (.slice none 0 0) (.int .i64 9) rfl (Qam kj) (Qam kj) ⟨rfl,x3⟩)
set_option maxRecDepth 100000 in
theorem Qh9 (ts : List NdV) (a_t:Option Addr) (c_t B1:Nat) (w:World) (ht:TrAt B1 w a_t ts) (htl:ts.length≤100000) (hmt:∀ i,i<ts.length→(ndi ts i).n.ms.length≤1000) (hc:chkT ts=true) (L:Nat) (hL:leaves ((ts.length:Nat):Int)=((L:Nat):Int)) (hL3:L≤32) (hlen:ts.length+1=2*L) (hTr:Qaw ((L:Nat):Int)=true) (m:Nat) (hm:m<L) (hus:(ndi ts (2*m)).n.us=true) (hal:((((QaF ts L).length:Nat):Int)==1)=false):Calls Tryd.prog 30 #[.slice a_t ts.length c_t,.int .i64 ((m:Nat):Int)] w (Qbw w (fun v W=>∃ us rs,AsC us ts∧rs=remT us m L∧∃ u,v=.tuple #[u,.int .i64 0]∧FrT w.heap.size rs u W)):=by
 refine enter 50 [(0,.slice a_t ts.length c_t),(1,.int .i64 ((m:Nat):Int))] Tryd.func30 rfl rfl kj rfl ?_
 refine wp_seq_k fun K1 hK1=>?_
 refine Qab ?_
 refine Qaa (.slice none 0 0) 4 rfl kj kj ?_
 refine Qaa (.int .i64 0) 5 rfl kj kj ?_
 refine Qae ?_
 refine hK1 _ _ ?_
 refine wp_seq_k fun K2 hK2=>?_
 refine wp_seq_k fun K3 hK3=>?_
 refine Qab ?_
 refine Qaa (.slice a_t ts.length c_t) 9 rfl kj kj ?_
 refine Qaj (.bool true) 12 #[.slice a_t ts.length c_t] 10 rfl kj kj (Qcs ts a_t c_t _ _ (TrAt.ext ht (Rely.Ext.refl w)) htl (fun i hi=>qT (hmt i hi) (by decide)) true hc) fun W1 e1=>?_
 have x1:Ext w W1:=Ext.tr (Rely.Ext.refl w) e1
 refine Qaa (.bool false) 11 rfl kj kj ?_
 refine Qae ?_
 refine hK3 _ _ ?_
 refine cond_false kj ?_
 refine wp_skip ?_
 refine hK2 _ _ ?_
 refine wp_seq_k fun K4 hK4=>?_
 refine Qab ?_
 refine Qaa (.int .i64 0) 6 rfl kj kj ?_
 refine Qae ?_
 refine hK4 _ _ ?_
 refine wp_seq_k fun K5 hK5=>?_
 refine wp_seq_k fun K6 hK6=>?_
 refine Qab ?_
 refine Qaa (.int .i64 0) 7 rfl kj kj ?_
 refine Qae ?_
 refine hK6 _ _ ?_
 refine wp_block ?_
 refine Qaz (fun (s1:Nat)=>[(0,.slice a_t ts.length c_t),(1,.int .i64 ((m:Nat):Int)),(6,.int .i64 (((QaF ts s1).length:Nat):Int)),(7,.int .i64 ((2*s1:Nat):Int))]) (fun (s1:Nat) W=>(s1≤L)∧(Ext W1 W)∧(Ext w W)) (fun (s1:Nat)=>L+1-s1) 0 ⟨rfl,rfl,rfl,rfl,trivial⟩ ⟨(Nat.zero_le _),(Rely.Ext.refl W1),x1⟩ fun s1 X1 V1 hI1=>?_
 obtain ⟨k,hs1⟩:∃ z,z=s1:=⟨_,rfl⟩
 subst hs1
 obtain ⟨hkl,kk1,xx1⟩:=hI1
 replace hkl:k≤L:=hkl
 replace kk1:Ext W1 V1:=kk1
 replace xx1:Ext w V1:=xx1
 have e2:=kk1
 refine wp_seq_k fun K7 hK7=>?_
 refine wp_seq_k fun K8 hK8=>?_
 refine Qab ?_
 refine Qaa (.int .i64 ((2*k:Nat):Int)) 12 rfl kj kj ?_
 refine Qaa (.slice a_t ts.length c_t) 13 rfl kj kj ?_
 refine Qaa (.int .i64 ((ts.length:Nat):Int)) 14 rfl kj kj ?_
 refine Qaa (.bool (decide (((2*k:Nat):Int)<((ts.length:Nat):Int)))) 15 rfl kj kj ?_
 refine Qae ?_
 refine hK8 _ _ ?_
 refine Qas (t:=decide (((2*k:Nat):Int)<((ts.length:Nat):Int))) kj (fun c9=>?_) (fun c9=>?_)
 ·skip
  have h15:2*k<ts.length:=by have:=of_decide_eq_true c9; omega
  refine wp_skip ?_
  refine hK7 _ _ ?_
  refine wp_seq_k fun K10 hK10=>?_
  refine wp_block ?_
  refine wp_seq_k fun K11 hK11=>?_
  refine Qab ?_
  refine Qaa (.slice a_t ts.length c_t) 18 rfl kj kj ?_
  refine Qaa (.int .i64 ((2*k:Nat):Int)) 19 rfl kj kj ?_
  obtain ⟨gtT,otT,hat,hnts⟩:=TrAt.ext ht xx1
  have hnt:=hnts (2*k) (by omega)
  obtain ⟨nt,ent⟩:∃ z,z=ndi ts (2*k):=⟨_,rfl⟩
  rw [←ent] at hnt
  have okt:=hnt.ok
  have rdt:=hnt.rd
  refine Qaa (.pointer (some ⟨gtT,otT+(2*k)*99,none⟩)) 20 rfl kj (Qao 23 _ _ .i64 (2*k) gtT otT ts.length c_t 41 99 a_t (hat (by omega)) rfl kj kj kj kj (by omega)) ?_
  refine Qaa (.pointer (some ⟨gtT,otT+(2*k)*99,none⟩)) 21 rfl kj kj ?_
  refine Qaa (.bool nt.n.us) 22 rfl kj (Qak 4 _ _ (.bool nt.n.us) (NdAt.at3 hnt).1 rfl kj kj) ?_
  refine Qae ?_
  refine hK11 _ _ ?_
  refine Qas (t:=nt.n.us) kj (fun c12=>?_) (fun c12=>?_)
  ·skip
   have hcn:(ndi ts (2*k)).n.us=true:=ent▸c12
   have hul:=Qbs ts k
   refine Qab ?_
   refine Qaa (.int .i64 (((QaF ts k).length:Nat):Int)) 23 rfl kj kj ?_
   refine Qaa (.int .i64 ((((QaF ts k).length+1:Nat):Int))) 24 rfl kj (Qai (u:=.int .i64 (IntKind.i64.wrap ((((QaF ts k).length:Nat):Int)+1))) kj (congrArg (Value.int .i64) (i64n _ _ (by omega) (by omega)))) ?_
   refine Qaa (.int .i64 ((((QaF ts k).length+1:Nat):Int))) 6 rfl kj kj ?_
   refine Qae ?_
   refine hK10 _ _ ?_
   refine Qab ?_
   refine Qaa (.int .i64 ((2*k:Nat):Int)) 16 rfl kj kj ?_
   refine Qaa (.int .i64 (((2*(k+1):Nat):Int))) 17 rfl kj (Qai (u:=.int .i64 (IntKind.i64.wrap (((2*k:Nat):Int)+2))) kj (congrArg (Value.int .i64) ((IntWalk.i64_in _ (by omega)).trans (by omega)))) ?_
   refine Qaa (.int .i64 (((2*(k+1):Nat):Int))) 7 rfl kj kj ?_
   refine Qae ?_
   have hul2:(QaF ts (k+1)).length=(QaF ts k).length+1:=by rw [QbV hcn]; simp
   rw [←hul2]
   repeat (first | with_reducible refine goX1 ?_ | with_reducible refine goX2 ?_ | with_reducible refine goX3 ?_)
   exact Qaq (k+1) ⟨rfl,rfl,rfl,rfl,trivial⟩ ⟨(by omega),e2,xx1⟩ (by show L+1-(k+1)<L+1-k; omega)
  ·skip
   have hcn:(ndi ts (2*k)).n.us=false:=ent▸c12
   have hul:=Qbs ts k
   refine wp_skip ?_
   refine hK10 _ _ ?_
   refine Qab ?_
   refine Qaa (.int .i64 ((2*k:Nat):Int)) 16 rfl kj kj ?_
   refine Qaa (.int .i64 (((2*(k+1):Nat):Int))) 17 rfl kj (Qai (u:=.int .i64 (IntKind.i64.wrap (((2*k:Nat):Int)+2))) kj (congrArg (Value.int .i64) ((IntWalk.i64_in _ (by omega)).trans (by omega)))) ?_
   refine Qaa (.int .i64 (((2*(k+1):Nat):Int))) 7 rfl kj kj ?_
   refine Qae ?_
   have hul2:(QaF ts (k+1)).length=(QaF ts k).length:=by rw [Qcl hcn]
   rw [←hul2]
   repeat (first | with_reducible refine goX1 ?_ | with_reducible refine goX2 ?_ | with_reducible refine goX3 ?_)
   exact Qaq (k+1) ⟨rfl,rfl,rfl,rfl,trivial⟩ ⟨(by omega),e2,xx1⟩ (by show L+1-(k+1)<L+1-k; omega)
 ·skip
  have hkL:k=L:=by have:=of_decide_eq_false c9; omega
  refine wp_exit ?_
  refine hK5 _ _ ?_
  refine wp_seq_k fun K13 hK13=>?_
  refine wp_seq_k fun K14 hK14=>?_
  refine Qab ?_
  refine Qaa (.slice a_t ts.length c_t) 25 rfl kj kj ?_
  refine Qaa (.int .i64 ((m:Nat):Int)) 26 rfl kj kj ?_
  refine Qaj (.bool true) 57 #[.slice a_t ts.length c_t,.int .i64 ((m:Nat):Int)] 27 rfl kj kj ((hus▸QfZ ts a_t c_t _ _ (TrAt.ext ht xx1) htl m (by omega) (by omega))) fun W3 e3=>?_
  have x3:Ext w W3:=Ext.tr xx1 e3
  refine Qaa (.bool false) 28 rfl kj kj ?_
  refine Qaa (.bool false) 29 rfl kj kj ?_
  refine Qaa (.int .i64 (((QaF ts k).length:Nat):Int)) 30 rfl kj kj ?_
  refine Qaa (.bool false) 31 rfl kj (Qai (u:=.bool (((((QaF ts k).length:Nat):Int)==1))) kj (congrArg Value.bool (by rw [hkL]; exact hal))) ?_
  refine Qaa (.bool false) 32 rfl kj kj ?_
  refine Qae ?_
  refine hK14 _ _ ?_
  refine cond_false kj ?_
  refine wp_skip ?_
  refine hK13 _ _ ?_
  refine wp_seq_k fun K15 hK15=>?_
  refine Qab ?_
  refine Qaa (.slice a_t ts.length c_t) 33 rfl kj kj ?_
  refine Qaa (.int .i64 ((m:Nat):Int)) 34 rfl kj kj ?_
  refine Qaa (.agg (cat [#[.bool false],#[.int .i64 0],ints .u8 (List.replicate 32 0),ints .u8 (List.replicate 32 0),ints .u8 (List.replicate 32 0),#[.slice none 0 0]])) 35 rfl kj kj ?_
  refine Qa0 (fun v W'=>(fun v W9=>∃ us,AsC us ts∧FrT W3.heap.size (blkT (us.set (2*m) zn) (2*((m:Nat):Int)) ((L:Nat):Int)) v W9∧(blkT (us.set (2*m) zn) (2*((m:Nat):Int)) ((L:Nat):Int)).length=ts.length∧∃ a c,v=.slice a ts.length c∧ts.length≤c) v W'∧Ext W3 W') 58 #[.slice a_t ts.length c_t,.int .i64 ((m:Nat):Int),.agg (cat [#[.bool false],#[.int .i64 0],ints .u8 (List.replicate 32 0),ints .u8 (List.replicate 32 0),ints .u8 (List.replicate 32 0),#[.slice none 0 0]])] 36 rfl kj kj ((QfL ts a_t _ _ _ (TrAt.ext ht x3) htl hmt L hL hL3 hlen hTr m hm zn Qdk rfl 0 (Qeb 0 _)).mono (by rintro e w' ⟨v,rfl,e1,hv⟩; exact ⟨v,rfl,hv,e1⟩)) fun vv16 W4 hh16=>?_
  obtain ⟨hv16,e4⟩:=hh16
  have x4:Ext w W4:=Ext.tr x3 e4
  obtain ⟨us,has,hfr,hfl,aB,cB,hvB,hcB⟩:=hv16
  subst hvB
  obtain ⟨aB2,cB2,hvB,htB,havB,hmB⟩:=hfr
  simp only [Value.slice.injEq] at hvB
  obtain ⟨rfl,-,rfl⟩:=hvB
  refine Qaa (.slice aB ts.length cB) 8 rfl kj kj ?_
  refine Qae ?_
  refine hK15 _ _ ?_
  refine wp_seq_k fun K17 hK17=>?_
  refine wp_block ?_
  have han3:anyU (blkT (us.set (2*m) zn) (2*((m:Nat):Int)) ((L:Nat):Int)) 0=true:=QhG has hlen hTr hm hus hal
  have hms3:∀ i,i<ts.length→(ndi (blkT (us.set (2*m) zn) (2*((m:Nat):Int)) ((L:Nat):Int)) i).n.ms.length≤1000:=fun i hi=>hmB i (by omega)
  refine Qaz (fun (s2:Nat×Nat×Nat×List NdV)=>[(8,.slice aB s2.2.1 cB)]) (fun (s2:Nat×Nat×Nat×List NdV) W=>(s2.2.2.2.length=s2.2.1)∧(s2.2.1+1=2*s2.2.2.1)∧(Qaw ((s2.2.2.1:Nat):Int)=true)∧(s2.2.1≤s2.1)∧(cutT ts.length (blkT (us.set (2*m) zn) (2*((m:Nat):Int)) ((L:Nat):Int))=cutT s2.1 s2.2.2.2)∧(anyU s2.2.2.2 0=true)∧(TrAt W.heap.size W aB s2.2.2.2)∧(AvT (fun g=>W3.heap.size≤g) aB s2.2.2.2)∧(∀ i,i<s2.2.1→(ndi s2.2.2.2 i).n.ms.length≤1000)∧(s2.2.1≤100000)∧(s2.2.1≤cB)∧(Ext W4 W)∧(Ext w W)) (fun (s2:Nat×Nat×Nat×List NdV)=>s2.2.1) (ts.length,ts.length,L,(blkT (us.set (2*m) zn) (2*((m:Nat):Int)) ((L:Nat):Int))) ⟨rfl,trivial⟩ ⟨hfl,hlen,hTr,(qR _),rfl,han3,(TrAt.here (TrAt.ext htB (Rely.Ext.refl W4))),havB,hms3,htl,hcB,(Rely.Ext.refl W4),x4⟩ fun s2 X2 V2 hI2=>?_
  obtain ⟨fu,nq,Lc,cu⟩:=s2
  obtain ⟨hcn,hcl,hcT,hfu,hcut,han,htc,hav,hms,hnl,hnc,kk2,xx2⟩:=hI2
  replace hcn:cu.length=nq:=hcn
  replace hcl:nq+1=2*Lc:=hcl
  replace hcT:Qaw ((Lc:Nat):Int)=true:=hcT
  replace hfu:nq≤fu:=hfu
  replace hcut:cutT ts.length (blkT (us.set (2*m) zn) (2*((m:Nat):Int)) ((L:Nat):Int))=cutT fu cu:=hcut
  replace han:anyU cu 0=true:=han
  replace htc:TrAt V2.heap.size V2 aB cu:=htc
  replace hav:AvT (fun g=>W3.heap.size≤g) aB cu:=hav
  replace hms:∀ i,i<nq→(ndi cu i).n.ms.length≤1000:=hms
  replace hnl:nq≤100000:=hnl
  replace hnc:nq≤cB:=hnc
  replace kk2:Ext W4 V2:=kk2
  replace xx2:Ext w V2:=xx2
  have e5:=kk2
  refine wp_seq_k fun K18 hK18=>?_
  refine wp_seq_k fun K19 hK19=>?_
  refine Qab ?_
  refine Qaa (.slice aB nq cB) 37 rfl kj kj ?_
  refine Qaa (.slice aB nq cB) 38 rfl kj kj ?_
  refine Qaa (.int .i64 ((nq:Nat):Int)) 39 rfl kj kj ?_
  refine Qaj (.int .i64 ((Lc:Nat):Int)) 32 #[.int .i64 ((nq:Nat):Int)] 40 rfl kj kj (Qcp ((nq:Nat):Int) _ (QbG (by omega) (Qbg hcl hcT)) _) fun W6 e6=>?_
  have x6:Ext w W6:=Ext.tr xx2 e6
  refine Qaa (.int .i64 ((Lc/2:Nat):Int)) 41 rfl kj (Qai (u:=.int .i64 (IntKind.i64.wrap (Int.tdiv (((Lc:Nat):Int)) (2)))) kj (congrArg (Value.int .i64) (QcR _ 2 (by omega)))) ?_
  have y5_6:Ext V2 W6:=(Rely.Ext.trans (Rely.Ext.refl V2) e6)
  refine Qaj (.bool (anyU cu (Lc/2))) 41 #[.slice aB nq cB,.int .i64 ((Lc/2:Nat):Int)] 42 rfl kj kj (Qlw cu _ _ _ _ (TrAt.ext htc y5_6) hcn (by omega) (Lc/2) (by omega)) fun W7 e7=>?_
  have x7:Ext w W7:=Ext.tr x6 e7
  refine Qaa (.bool (!(anyU cu (Lc/2)))) 43 rfl kj kj ?_
  refine Qae ?_
  refine hK19 _ _ ?_
  refine Qas (t:=!(anyU cu (Lc/2))) kj (fun c20=>?_) (fun c20=>?_)
  ·skip
   have hany:anyU cu (Lc/2)=false:=by simpa using c20
   have hLc1:Lc≠1:=fun e=>by rw [e] at hany; rw [show 1/2=0 from rfl,han] at hany; cases hany
   obtain ⟨hLe,hLh⟩:=Qfn hcT hLc1
   have hcl0:lvs cu=Lc:=Qbv (hcn▸Qbg hcl hcT)
   refine wp_skip ?_
   refine hK18 _ _ ?_
   refine wp_block ?_
   refine Qab ?_
   refine Qaa (.slice aB nq cB) 44 rfl kj kj ?_
   refine Qaa (.slice aB nq cB) 45 rfl kj kj ?_
   refine Qaa (.int .i64 ((nq:Nat):Int)) 46 rfl kj kj ?_
   refine Qaa (.int .i64 ((nq/2:Nat):Int)) 47 rfl kj (Qai (u:=.int .i64 (IntKind.i64.wrap (Int.tdiv (((nq:Nat):Int)) (2)))) kj (congrArg (Value.int .i64) (QcR _ 2 (by omega)))) ?_
   refine Qaa (.slice aB (nq/2) cB) 48 rfl kj (QgO (a:=aB) (len:=nq) (cap:=cB) 23 _ _ (nq/2) 41 rfl kj kj .i64 kj 99 kj (by omega)) ?_
   refine Qaa (.slice aB (nq/2) cB) 8 rfl kj kj ?_
   refine Qae ?_
   have y5_7:Ext V2 W7:=(Rely.Ext.trans y5_6 e7)
   have y4_6:Ext W4 W6:=(Rely.Ext.trans e5 e6)
   have y4_7:Ext W4 W7:=(Rely.Ext.trans y4_6 e7)
   repeat (first | with_reducible refine goX1 ?_ | with_reducible refine goX2 ?_ | with_reducible refine goX3 ?_)
   exact Qaq ((fu-1),(nq/2),(Lc/2),(cu.take (nq/2))) ⟨rfl,trivial⟩ ⟨(by show (cu.take (nq/2)).length=nq/2; rw [List.length_take,hcn]; omega),(by show nq/2+1=2*(Lc/2); omega),hLh,(by show nq/2≤fu-1; omega),(hcut.trans (hcn▸Qdh hcl0 (by omega) hany)),(hcn▸Qdi (by omega) hLe han hany),((TrAt.here (TrAt.ext htc y5_7)).take _),(hav.take _),(fun i hi=>by have hi:i<nq/2:=hi; show (ndi (cu.take (nq/2)) i).n.ms.length≤1000; rw [Qb3 hi]; exact hms i (by omega)),(by show nq/2≤100000; omega),(by show nq/2≤cB; omega),y4_7,x7⟩ (by show nq/2<nq; omega)
  ·skip
   have hany:anyU cu (Lc/2)=true:=by simpa using c20
   refine wp_exit ?_
   refine hK17 _ _ ?_
   refine wp_seq_k fun K21 hK21=>?_
   refine Qab ?_
   refine Qaa (.slice aB nq cB) 49 rfl kj kj ?_
   refine Qaa (.slice aB nq cB) 4 rfl kj kj ?_
   refine Qaa (.int .i64 0) 5 rfl kj kj ?_
   refine Qae ?_
   refine hK21 _ _ ?_
   refine wp_ret ?_
   repeat (first | with_reducible refine goR1 ?_ | with_reducible refine goR2 ?_)
   have y5_7:Ext V2 W7:=(Rely.Ext.trans y5_6 e7)
   exact (show bodyPost _ _ _ .ret _ _ from ret2 (.slice aB nq cB) (.int .i64 0) rfl (Qam kj) (Qam kj) ⟨_,rfl,x7,us,cu,has,(by rw [remT,has.1,hcut,QdN (Qbv (hcn▸Qbg hcl hcT)) hany]),_,rfl,by subst hcn; exact ⟨_,_,rfl,(TrAt.here (TrAt.ext htc y5_7)),hav.mono (fun g h=>qT x3.size h),hms⟩⟩)
end Go.Proofs.YtcmaolmofgmkhaaDoor.Te
end
section
namespace Go.Proofs.YtcmaolmofgmkhaaDoor.Te
open Go Go.RowKit
open Rely Auto Own Seat Sha
theorem QlH (n : NdV) (v:Int) (j:Nat):(cat (ndP ⟨{ n.n with nm:=v },n.a,n.c⟩))[j]? = if j=1 then some (.int .i64 v) else (cat (ndP n))[j]?:=by
  have key:∀ m:NdV,cat (ndP m)=#[Value.bool m.n.us]++(#[Value.int .i64 m.n.nm]++cat [ints .u8 m.n.key,ints .u8 m.n.sg,ints .u8 m.n.pa,#[slv m]]):=fun m=>by unfold ndP slv; simp [cat]
  rw [key,key]
  show (#[Value.bool n.n.us]++(#[Value.int .i64 v]++cat [ints .u8 n.n.key,ints .u8 n.n.sg,ints .u8 n.n.pa,#[slv n]]))[j]? = _
  match j with
  | 0=>rw [if_neg (by decide),Array.getElem?_append_left (by simp),Array.getElem?_append_left (by simp)]
  | 1 =>
    rw [if_pos rfl,Array.getElem?_append_right (by simp),Array.getElem?_append_left (by simp)]; rfl
  | j+2 =>
    rw [if_neg (by omega),Array.getElem?_append_right (by simp),Array.getElem?_append_right (by simp),Array.getElem?_append_right (by simp),Array.getElem?_append_right (by simp)]
    rfl
theorem QkC (n : NdV) (ms:List Int) (h:ms.length=n.n.ms.length):cat (ndP ⟨{ n.n with ms:=ms },n.a,n.c⟩)=cat (ndP n):=by
  rw [Qdd,Qdd]
  unfold slv
  show _++#[Value.slice n.a ms.length n.c]=_
  rw [h]
theorem OwH.upd {base g c i M:Nat} {ts:List NdV} {n:NdV} {W W':World} {cur cur':Array Value} (hM:ts.length=M) (t:OwT base ts (.slice (some ⟨g,0,none⟩) M c) W) (hi:i<M) (r:W.heap[g]? = some (.cells cur 41)) (r':W'.heap[g]? = some (.cells cur' 41)) (hs:cur'.size=cur.size)
    (hc:∀ k j,j<99→k*99+j<cur.size→cur'[k*99+j]? = if k=i then (cat (ndP n))[j]? else cur[k*99+j]?) (ok:NdOk n.n) (hn:NdIn base W' n) (hk:∀ k,k<M→k≠i→NdIn base W' (ndi ts k)) (hob:ob n=ob (ndi ts i)):OwT base (ts.set i n) (.slice (some ⟨g,0,none⟩) M c) W':=by
  subst hM
  obtain ⟨g',c2,cur2,e,q2,q3,q4,q5,q6,q7⟩:=t.opens (by omega)
  simp only [Value.slice.injEq,Option.some.injEq,Addr.mk.injEq] at e
  obtain ⟨⟨rfl,-⟩,-,rfl⟩:=e
  rw [r] at q3
  simp only [Option.some.injEq,Obj.cells.injEq,and_true] at q3
  subst q3
  have:=OwH.made (h:=none) (ts:=ts.set i n) (c:=c) q2 r' (by rw [hs]; exact q4) (by rw [List.length_set]; exact q5) q6 (fun k hk2 j hj=>by
    rw [List.length_set] at hk2
    rw [Qa8 n hi,hc k j hj (by omega)]
    by_cases e:k=i
    · rw [if_pos e,if_pos e]
    · rw [if_neg e,if_neg e,q7 k hk2 j hj]) (fun k hk2=>by
    rw [List.length_set] at hk2
    rw [Qa8 n hi]
    by_cases e:k=i
    · rw [if_pos e]; exact ok
    · rw [if_neg e]; exact t.ok k hk2) (fun k hk2 _=>by
    rw [List.length_set] at hk2
    rw [Qa8 n hi]
    by_cases e:k=i
    · rw [if_pos e]; exact hn
    · rw [if_neg e]; exact hk k hk2 e) (QeC hi t.ap (fun _ _ q=>q) fun _ j hj hji _ g h1 h2=>t.ap i j hi hj (fun e=>hji e.symm) (by simp) (by simp) g (hob▸h1) h2)
  rwa [List.length_set] at this
def nmS (ts : List NdV) (i:Nat) (v:Int):List NdV:=ts.set i ⟨{ (ndi ts i).n with nm:=v },(ndi ts i).a,(ndi ts i).c⟩
def msS (ts : List NdV) (i j:Nat) (v:Int):List NdV:=ts.set i ⟨{ (ndi ts i).n with ms:=(ndi ts i).n.ms.set j v },(ndi ts i).a,(ndi ts i).c⟩
theorem QfN (ts : List NdV) (i:Nat) (v:Int):(nmS ts i v).length=ts.length:=List.length_set ..
theorem QfQ (ts : List NdV) (i j:Nat) (v:Int):(msS ts i j v).length=ts.length:=List.length_set ..
theorem QlI (ts : List NdV) (i j:Nat) (v:Int) (h:i<ts.length):(ndi (msS ts i j v) i).n.ms.length=(ndi ts i).n.ms.length:=by
  unfold msS
  rw [Qa8 _ h,if_pos rfl]
  exact List.length_set ..
theorem OwH.setNm {base g c i M:Nat} {v:Int} {ts:List NdV} {W W':World} {cur:Array Value} (hM:ts.length=M) (t:OwT base ts (.slice (some ⟨g,0,none⟩) M c) W) (hi:i<M) (r:W.heap[g]? = some (.cells cur 41)) (p:Puts W g W') (r':W'.heap[g]? = some (.cells (cur.setIfInBounds (i*99+1) (.int .i64 v)) 41)) :
    OwT base (nmS ts i v) (.slice (some ⟨g,0,none⟩) M c) W':=by
  have kp:∀ m:NdV,NdIn base W m→NdIn base W' m:=fun m hm=>hm.keep fun k hk=>p.2.2.2.2 k fun e=>by
    obtain ⟨cur2,r2⟩:=QbD hm.2.2 hk
    rw [e,r] at r2
    simp at r2
  have hi0:=t.nd i (by omega) (by simp)
  obtain ⟨g',c2,cur2,e,q2,q3,q4,q5,q6,q7⟩:=t.opens (by omega)
  simp only [Value.slice.injEq,Option.some.injEq,Addr.mk.injEq] at e
  obtain ⟨⟨rfl,-⟩,-,rfl⟩:=e
  rw [r] at q3
  simp only [Option.some.injEq,Obj.cells.injEq,and_true] at q3
  subst q3
  refine OwH.upd hM t hi r r' (Array.size_setIfInBounds ..) (fun k j hj hl=>?_) ⟨hi0.1.kl,hi0.1.gl,hi0.1.pl,hi0.1.kb,hi0.1.gb,hi0.1.pb⟩ (kp ⟨_,_,_⟩ ⟨⟨hi0.1.kl,hi0.1.gl,hi0.1.pl,hi0.1.kb,hi0.1.gb,hi0.1.pb⟩,hi0.2.1,hi0.2.2⟩) (fun k hk _=>kp _ (t.nd k (by omega) (by simp))) rfl
  rw [Array.getElem?_setIfInBounds]
  by_cases e:k=i
  · subst e
    rw [if_pos rfl,QlH]
    by_cases e2:j=1
    · rw [if_pos (by omega),if_pos e2,if_pos (by omega)]
    · rw [if_neg (by omega),if_neg e2,q7 k (by omega) j hj]
  · rw [if_neg (by omega),if_neg e]
theorem OwH.setMs {base g c i j b M:Nat} {v:Int} {ts:List NdV} {W W':World} {cu:Array Value} (hM:ts.length=M) (t:OwT base ts (.slice (some ⟨g,0,none⟩) M c) W) (hi:i<M) (hj:j<(ndi ts i).n.ms.length) (hb:ob (ndi ts i)=some b) (r:W.heap[b]? = some (.cells cu 3)) (p:Puts W b W') (r':W'.heap[b]? = some (.cells (cu.setIfInBounds j (.int .i64 v)) 3)) :
    OwT base (msS ts i j v) (.slice (some ⟨g,0,none⟩) M c) W':=by
  have hi0:=t.nd i (by omega) (by simp)
  obtain ⟨g',c2,cur,e,q2,q3,q4,q5,q6,q7⟩:=t.opens (by omega)
  simp only [Value.slice.injEq,Option.some.injEq,Addr.mk.injEq] at e
  obtain ⟨⟨rfl,-⟩,-,rfl⟩:=e
  have hgb:g≠b:=fun e=>by rw [e,r] at q3; simp at q3
  have hl:((ndi ts i).n.ms.set j v).length=(ndi ts i).n.ms.length:=List.length_set ..
  have hown:NdIn base W' ⟨{ (ndi ts i).n with ms:=(ndi ts i).n.ms.set j v },(ndi ts i).a,(ndi ts i).c⟩:=by
    refine ⟨⟨hi0.1.kl,hi0.1.gl,hi0.1.pl,hi0.1.kb,hi0.1.gb,hi0.1.pb⟩,by rw [hl]; exact hi0.2.1,?_⟩
    obtain ⟨b',cc,cu',e1,e2,e3,e4,e5,e6,e7⟩:=Qdb hi0.2.2 (by omega)
    have hbb:b'=b:=by unfold ob at hb; rw [e1] at hb; exact Option.some.inj hb
    subst hbb
    rw [r] at e3
    simp only [Option.some.injEq,Obj.cells.injEq,and_true] at e3
    subst e3
    show OwnN .i64 _ base ((ndi ts i).n.ms.set j v) (.slice (ndi ts i).a ((ndi ts i).n.ms.set j v).length (ndi ts i).c) W'
    rw [hl]
    unfold slv at e1
    rw [e1]
    refine Qeg hl e2 r' (by rw [Array.size_setIfInBounds]; exact e4) e5 e6 ?_
    apply List.ext_getElem?
    intro k
    rw [List.getElem?_take,Array.getElem?_toList,Array.getElem?_setIfInBounds,List.getElem?_map,List.getElem?_set]
    have e8:k<(ndi ts i).n.ms.length→cu[k]? = some (.int .i64 (nth (ndi ts i).n.ms k)):=fun hk=>QcO e7 hk
    by_cases hk:k<(ndi ts i).n.ms.length
    · rw [if_pos hk]
      by_cases e:j=k
      · subst e
        rw [if_pos rfl,if_pos (by omega),if_pos rfl,if_pos hk]; rfl
      · rw [if_neg e,if_neg e,e8 hk,List.getElem?_eq_getElem hk]
        unfold nth
        rw [List.getD_eq_getElem?_getD,List.getElem?_eq_getElem hk]; rfl
    · rw [if_neg hk,if_neg (by omega),List.getElem?_eq_none (by omega)]; rfl
  refine OwH.upd hM t hi q3 ((p.2.2.2.2 g hgb).trans q3) rfl (fun k j2 hj2 hl2=>?_) ⟨hi0.1.kl,hi0.1.gl,hi0.1.pl,hi0.1.kb,hi0.1.gb,hi0.1.pb⟩ hown (fun k hk hki=>(t.nd k (by omega) (by simp)).keep fun x hx=>p.2.2.2.2 x fun e=>t.ap k i (by omega) (by omega) hki (by simp) (by simp) x hx (e▸hb)) ?_
  · by_cases e:k=i
    · subst e
      rw [if_pos rfl,q7 k (by omega) j2 hj2,QkC (ndi ts k) ((ndi ts k).n.ms.set j v) hl]
    · rw [if_neg e]
  · show Value.ownBlock (.slice (ndi ts i).a ((ndi ts i).n.ms.set j v).length (ndi ts i).c)=_
    rw [hl]; rfl
section
variable {ds : List Deferred} {P : Program} {ops : Array Oper} {Q : Exit → Act → World → Prop} {rest : List Oper} {o : Oper} {N : Nat} {L : Env} {W : World}
theorem Qhu (ty : TypeId) (x y:Operand) {base g c i M:Nat} {v:Int} {ts:List NdV} (hM:ts.length=M) (t:OwT base ts (.slice (some ⟨g,0,none⟩) M c) W) (hi:i<M)
    (ho:o.op=.store ty x y) (hx:Rely.look (envN N L) x=.pointer (some ⟨g,0+i*99+1,none⟩)) (hy:Rely.look (envN N L) y=.int .i64 v) (hi1:(P.info? ty).map (·.size)=some 1) (hd:o.dst=none) (hg:Qbe ops o N L=some true)
    (kk:∀ W',Puts W g W'→OwT base (nmS ts i v) (.slice (some ⟨g,0,none⟩) M c) W'→WL P ops Q rest (Qat ds N L) W'):WL P ops Q (o::rest) (Qat ds N L) W:=by
  obtain ⟨g',c2,cur,e,q2,q3,q4,q5,q6,q7⟩:=t.opens (by omega)
  simp only [Value.slice.injEq,Option.some.injEq,Addr.mk.injEq] at e
  obtain ⟨⟨rfl,-⟩,-,rfl⟩:=e
  rw [Nat.zero_add] at hx
  exact Qa5 g cur _ _ q3 hd hg (QaB ty x y g (i*99+1) _ cur (.int .i64 v) q3 ho hx hy hi1 (by simp only [Nat.blt_eq]; omega) rfl rfl) fun W' p r'=>kk W' p (t.setNm hM hi q3 p r')
theorem Qhv (ty : TypeId) (x y:Operand) {base g c i j M b:Nat} {v:Int} {ts:List NdV} (hM:ts.length=M) (t:OwT base ts (.slice (some ⟨g,0,none⟩) M c) W) (hi:i<M) (hj:j<(ndi ts i).n.ms.length) (hb:(ndi ts i).a=some ⟨b,0,none⟩)
    (ho:o.op=.store ty x y) (hx:Rely.look (envN N L) x=.pointer (some ⟨b,0+j,none⟩)) (hy:Rely.look (envN N L) y=.int .i64 v) (hi1:(P.info? ty).map (·.size)=some 1) (hd:o.dst=none) (hg:Qbe ops o N L=some true)
    (kk:∀ W',Puts W b W'→base≤b→b<W.heap.size→OwT base (msS ts i j v) (.slice (some ⟨g,0,none⟩) M c) W'→WL P ops Q rest (Qat ds N L) W'):WL P ops Q (o::rest) (Qat ds N L) W:=by
  have hi0:=t.nd i (by omega) (by simp)
  obtain ⟨b',cc,cu,e1,e2,e3,e4,e5,e6,e7⟩:=Qdb hi0.2.2 (by omega)
  have hbb:b'=b:=by unfold slv at e1; rw [hb] at e1; simp only [Value.slice.injEq,Option.some.injEq,Addr.mk.injEq] at e1; exact e1.1.1.symm
  subst hbb
  rw [Nat.zero_add] at hx
  exact Qa5 b' cu _ _ e3 hd hg (QaB ty x y b' j _ cu (.int .i64 v) e3 ho hx hy hi1 (by simp only [Nat.blt_eq]; omega) rfl rfl) fun W' p r'=>kk W' p e2 (QaC e3) (t.setMs hM hi hj (by unfold ob; rw [e1]; rfl) e3 p r')
end
theorem OwH.list {base g c i M:Nat} {ts:List NdV} {W:World} (hM:ts.length=M) (t:OwT base ts (.slice (some ⟨g,0,none⟩) M c) W) (hi:i<M) (h0:0<(ndi ts i).n.ms.length):∃ b,(ndi ts i).a=some ⟨b,0,none⟩∧base≤b∧b<W.heap.size∧∀ j,j<(ndi ts i).n.ms.length→W.cell? ⟨b,0+j,none⟩=some (.int .i64 (nth (ndi ts i).n.ms j)):=by
  obtain ⟨b,cc,cu,e1,e2,e3,e4,e5,e6,e7⟩:=Qdb (t.nd i (by omega) (by simp)).2.2 h0
  unfold slv at e1
  simp only [Value.slice.injEq] at e1
  exact ⟨b,e1.1,e2,QaC e3,fun j hj=>by rw [Nat.zero_add,QbR e3]; exact QcO e7 hj⟩
end Go.Proofs.YtcmaolmofgmkhaaDoor.Te
end
section
namespace Go.Proofs.YtcmaolmofgmkhaaDoor.Te
open Go Go.RowKit
open Rely Auto Own Seat Sha
theorem Qgl (B : Nat) (w:World) (a:Option Addr):TrAt B w a []:=⟨0,0,fun h=>absurd h (by decide),fun i hi=>absurd hi (Nat.not_lt_zero _)⟩
end Go.Proofs.YtcmaolmofgmkhaaDoor.Te
end
section
namespace Go.Proofs.YtcmaolmofgmkhaaDoor.Te
open Go Go.RowKit
open Rely Auto Own Seat Sha
section
variable {ds : List Deferred} {P : Program} {ops : Array Oper} {Q : Exit → Act → World → Prop} {rest : List Oper} {o : Oper} {N : Nat} {L : Env} {W : World}
end
def wl (l : List Nat):List Int:=l.map fun z=>((z:Nat):Int)
theorem Qgc (l : List Nat):(wl l).length=l.length:=List.length_map ..
theorem Qgd (l : List Nat) (k:Nat):wl (l++[k])=wl l++[((k:Nat):Int)]:=by unfold wl; rw [List.map_append]; rfl
end Go.Proofs.YtcmaolmofgmkhaaDoor.Te
end
section
namespace Go.Proofs.YtcmaolmofgmkhaaDoor.Te
open Go Go.RowKit
open Rely Auto Own Seat Sha
theorem QjF : ∀ {a b:List Int},a.Pairwise (· < ·)→b.Pairwise (· < ·)→(∀ x,x∈a↔x∈b)→a=b
  | [],[],_,_,_=>rfl
  | [],y::b,_,_,h=>absurd ((h y).2 List.mem_cons_self) List.not_mem_nil
  | x::a,[],_,_,h=>absurd ((h x).1 List.mem_cons_self) List.not_mem_nil
  | x::a,y::b,ha,hb,h=>by
    rw [List.pairwise_cons] at ha hb
    have e:x=y:=by
      rcases List.mem_cons.1 ((h x).1 List.mem_cons_self) with e | e
      · exact e
      · rcases List.mem_cons.1 ((h y).2 List.mem_cons_self) with q | q
        · exact q.symm
        · have:=ha.1 y q
          have:=hb.1 x e
          omega
    subst e
    rw [QjF ha.2 hb.2 fun z=>⟨fun hz=>?_,fun hz=>?_⟩]
    · rcases List.mem_cons.1 ((h z).1 (List.mem_cons_of_mem _ hz)) with q | q
      · have:=ha.1 z hz; omega
      · exact q
    · rcases List.mem_cons.1 ((h z).2 (List.mem_cons_of_mem _ hz)) with q | q
      · have:=hb.1 z hz; omega
      · exact q
theorem Qmh {l : List Nat} (h:l.Pairwise (· < ·)):(wl l).Pairwise (· < ·):=by
  unfold wl
  exact List.pairwise_map.2 (h.imp fun q=>by omega)
theorem QlK {l : List Nat} {x:Int}:x∈wl l↔∃ j∈l,((j:Nat):Int)=x:=by unfold wl; exact List.mem_map
def QbX (ms : List Int) (m k:Nat):List Nat:=(List.range k).filter fun j=>decide (j=m) || decide (((j:Nat):Int)∈ms)
theorem QdK {ms : List Int} {m k:Nat} (h:k=m∨((k:Nat):Int)∈ms):QbX ms m (k+1)=QbX ms m k++[k]:=by
  unfold QbX
  rw [List.range_succ,List.filter_append,List.filter_cons,if_pos (by rcases h with h | h <;> simp [h])]; rfl
theorem QhN {ms : List Int} {m k:Nat} (h:k≠m) (h2:((k:Nat):Int)∉ms):QbX ms m (k+1)=QbX ms m k:=by
  unfold QbX
  rw [List.range_succ,List.filter_append,List.filter_cons,if_neg (by simp [h,h2])]; simp
theorem QdL (ms : List Int) (m k:Nat):(QbX ms m k).length≤k:=qT (List.length_filter_le _ _) (by rw [List.length_range]; exact qR _)
theorem Qgz {ms : List Int} {m:Nat} (h:ms.Pairwise (· < ·)) (hb:∀ j∈ms,0≤j∧j<32) (hm:m<32) (hn:((m:Nat):Int)∉ms):wl (QbX ms m 32)=insA ms (posI ms ((m:Nat):Int)) ((m:Nat):Int):=by
  refine QjF (Qmh (List.Pairwise.filter _ List.pairwise_lt_range)) (Qe6 h hn) fun x=>?_
  rw [QlK,QeU]
  constructor
  · rintro ⟨j,hj,rfl⟩
    unfold QbX at hj
    rw [List.mem_filter,Bool.or_eq_true,decide_eq_true_eq,decide_eq_true_eq] at hj
    rcases hj.2 with e | e
    · exact .inl (by rw [e])
    · exact .inr e
  · intro hx
    have h32:0≤x∧x<32:=by
      rcases hx with rfl | hx
      · omega
      · exact hb x hx
    refine ⟨x.toNat,?_,by omega⟩
    unfold QbX
    rw [List.mem_filter,List.mem_range,Bool.or_eq_true,decide_eq_true_eq,decide_eq_true_eq]
    refine ⟨by omega,?_⟩
    rcases hx with rfl | hx
    · exact .inl (by omega)
    · exact .inr (by rw [show ((x.toNat:Nat):Int)=x by omega]; exact hx)
theorem Form.ms_lt {ts : List NdV} {L x:Nat} (f:Form ts L) (hx:x<ts.length) (ho:x%2=1) (hu:(ndi ts x).n.us=true):(ndi ts x).n.ms.Pairwise (· < ·)∧∀ j∈(ndi ts x).n.ms,0≤j∧j<32∧(ndi ts (2*j.toNat)).n.us=true:=by
  have u:=f.up x hx ho hu
  refine ⟨QlD u.inc,fun j hj=>?_⟩
  obtain ⟨m,e,hm,-,uj,-⟩:=u.mem j hj
  have:=Qay f.tr
  exact ⟨by omega,by omega,by rw [e]; exact uj⟩
end Go.Proofs.YtcmaolmofgmkhaaDoor.Te
end
section
namespace Go.Proofs.YtcmaolmofgmkhaaDoor.Te
open Go Go.RowKit
open Rely Auto Own Seat Sha
set_option maxRecDepth 100000 in
theorem QlA (ts : List NdV) (a_t:Option Addr) (c_t B1:Nat) (w:World) (ht:TrAt B1 w a_t ts) (htl:ts.length≤100000) (hmt:∀ i,i<ts.length→(ndi ts i).n.ms.length≤1000) (nd:NdV) (hok:NdOk nd.n) (B2:Nat) (hr:RdK .i64 B2 nd.n.ms (.slice nd.a nd.n.ms.length nd.c) w) (hc:chkT ts=false):Calls Tryd.prog 26 #[.slice a_t ts.length c_t,.agg (cat [#[.bool nd.n.us],#[.int .i64 nd.n.nm],ints .u8 (nd.n.key),ints .u8 (nd.n.sg),ints .u8 (nd.n.pa),#[.slice nd.a nd.n.ms.length nd.c]])] w (Ret w (.tuple #[.slice none 0 0,.int .i64 0,.int .i64 3])):=by
  refine enter 123 [(0,.slice a_t ts.length c_t),(1,.agg (cat [#[.bool nd.n.us],#[.int .i64 nd.n.nm],ints .u8 (nd.n.key),ints .u8 (nd.n.sg),ints .u8 (nd.n.pa),#[.slice nd.a nd.n.ms.length nd.c]]))] Tryd.func26 rfl rfl kj rfl ?_
  refine wp_seq_k fun K1 hK1=>?_
  refine Qab ?_
  refine Qan (cat [#[.bool nd.n.us],#[.int .i64 nd.n.nm],ints .u8 (nd.n.key),ints .u8 (nd.n.sg),ints .u8 (nd.n.pa),#[.slice nd.a nd.n.ms.length nd.c]]) 41 3 rfl kj kj fun g2 W1 l2 e1 r2_1=>?_
  have x1:Ext w W1:=Ext.tr (Rely.Ext.refl w) e1
  have b2:w.heap.size≤g2:=qT (Rely.Ext.refl w).size l2
  refine Qaa (.slice none 0 0) 4 rfl kj kj ?_
  refine Qaa (.int .i64 0) 5 rfl kj kj ?_
  refine Qaa (.int .i64 0) 6 rfl kj kj ?_
  refine Qae ?_
  refine hK1 _ _ ?_
  refine wp_seq_k fun K3 hK3=>?_
  refine wp_seq_k fun K4 hK4=>?_
  refine Qab ?_
  refine Qaa (.slice a_t ts.length c_t) 15 rfl kj kj ?_
  refine Qaj (.bool false) 12 #[.slice a_t ts.length c_t] 16 rfl kj kj (Qcs ts a_t c_t _ _ (TrAt.ext ht x1) htl (fun i hi=>qT (hmt i hi) (by decide)) false hc) fun W2 e2=>?_
  have x2:Ext w W2:=Ext.tr x1 e2
  refine Qaa (.bool true) 17 rfl kj kj ?_
  refine Qaa (.bool true) 18 rfl kj kj ?_
  refine Qad 19 rfl kj ?_
  refine Qad 20 rfl kj ?_
  refine Qad 21 rfl kj ?_
  refine Qaa (.bool true) 22 rfl kj kj ?_
  refine Qae ?_
  refine hK4 _ _ ?_
  refine cond_true kj ?_
  refine wp_seq_k fun K5 hK5=>?_
  refine Qab ?_
  refine Qaa (.slice none 0 0) 4 rfl kj kj ?_
  refine Qaa (.int .i64 0) 5 rfl kj kj ?_
  refine Qaa (.int .i64 3) 6 rfl kj kj ?_
  refine Qae ?_
  refine hK5 _ _ ?_
  refine wp_ret ?_
  repeat (first | with_reducible refine goR1 ?_ | with_reducible refine goR2 ?_)
  exact (show bodyPost _ _ _ .ret _ _ from ret3 (.slice none 0 0) (.int .i64 0) (.int .i64 3) rfl (Qam kj) (Qam kj) (Qam kj) ⟨rfl,x2⟩)
set_option maxRecDepth 100000 in
theorem Ql8 (ts : List NdV) (a_t:Option Addr) (c_t B1:Nat) (w:World) (ht:TrAt B1 w a_t ts) (htl:ts.length≤100000) (hmt:∀ i,i<ts.length→(ndi ts i).n.ms.length≤1000) (nd:NdV) (hok:NdOk nd.n) (B2:Nat) (hr:RdK .i64 B2 nd.n.ms (.slice nd.a nd.n.ms.length nd.c) w) (hc:chkT ts=true) (hs:QaD nd.n=false):Calls Tryd.prog 26 #[.slice a_t ts.length c_t,.agg (cat [#[.bool nd.n.us],#[.int .i64 nd.n.nm],ints .u8 (nd.n.key),ints .u8 (nd.n.sg),ints .u8 (nd.n.pa),#[.slice nd.a nd.n.ms.length nd.c]])] w (Ret w (.tuple #[.slice none 0 0,.int .i64 0,.int .i64 3])):=by
  refine enter 123 [(0,.slice a_t ts.length c_t),(1,.agg (cat [#[.bool nd.n.us],#[.int .i64 nd.n.nm],ints .u8 (nd.n.key),ints .u8 (nd.n.sg),ints .u8 (nd.n.pa),#[.slice nd.a nd.n.ms.length nd.c]]))] Tryd.func26 rfl rfl kj rfl ?_
  refine wp_seq_k fun K1 hK1=>?_
  refine Qab ?_
  refine Qan (cat [#[.bool nd.n.us],#[.int .i64 nd.n.nm],ints .u8 (nd.n.key),ints .u8 (nd.n.sg),ints .u8 (nd.n.pa),#[.slice nd.a nd.n.ms.length nd.c]]) 41 3 rfl kj kj fun g2 W1 l2 e1 r2_1=>?_
  have x1:Ext w W1:=Ext.tr (Rely.Ext.refl w) e1
  have b2:w.heap.size≤g2:=qT (Rely.Ext.refl w).size l2
  refine Qaa (.slice none 0 0) 4 rfl kj kj ?_
  refine Qaa (.int .i64 0) 5 rfl kj kj ?_
  refine Qaa (.int .i64 0) 6 rfl kj kj ?_
  refine Qae ?_
  refine hK1 _ _ ?_
  refine wp_seq_k fun K3 hK3=>?_
  refine wp_seq_k fun K4 hK4=>?_
  refine Qab ?_
  refine Qaa (.slice a_t ts.length c_t) 15 rfl kj kj ?_
  refine Qaj (.bool true) 12 #[.slice a_t ts.length c_t] 16 rfl kj kj (Qcs ts a_t c_t _ _ (TrAt.ext ht x1) htl (fun i hi=>qT (hmt i hi) (by decide)) true hc) fun W2 e2=>?_
  have x2:Ext w W2:=Ext.tr x1 e2
  refine Qaa (.bool false) 17 rfl kj kj ?_
  refine Qaa (.bool false) 18 rfl kj kj ?_
  have r2_2:=(Qah r2_1 e2)
  refine Qaa (.agg (cat [#[.bool nd.n.us],#[.int .i64 nd.n.nm],ints .u8 (nd.n.key),ints .u8 (nd.n.sg),ints .u8 (nd.n.pa),#[.slice nd.a nd.n.ms.length nd.c]])) 19 rfl kj (Qau 41 _ g2 41 _ _ r2_2 rfl kj kj (isz (n:=99) kj (by rw [Qac,Qac,Qac,Qac,Qac,Qac]; simp only [qS,cat,((Qaf _ _).trans hok.gl),((Qaf _ _).trans hok.kl),((Qaf _ _).trans hok.pl)]; rfl))) ?_
  refine Qaj (.bool false) 43 #[.agg (cat [#[.bool nd.n.us],#[.int .i64 nd.n.nm],ints .u8 (nd.n.key),ints .u8 (nd.n.sg),ints .u8 (nd.n.pa),#[.slice nd.a nd.n.ms.length nd.c]])] 20 rfl kj kj ((hs▸Qcv nd hok _)) fun W3 e3=>?_
  have x3:Ext w W3:=Ext.tr x2 e3
  refine Qaa (.bool true) 21 rfl kj kj ?_
  refine Qaa (.bool true) 22 rfl kj kj ?_
  refine Qae ?_
  refine hK4 _ _ ?_
  refine cond_true kj ?_
  refine wp_seq_k fun K5 hK5=>?_
  refine Qab ?_
  refine Qaa (.slice none 0 0) 4 rfl kj kj ?_
  refine Qaa (.int .i64 0) 5 rfl kj kj ?_
  refine Qaa (.int .i64 3) 6 rfl kj kj ?_
  refine Qae ?_
  refine hK5 _ _ ?_
  refine wp_ret ?_
  repeat (first | with_reducible refine goR1 ?_ | with_reducible refine goR2 ?_)
  exact (show bodyPost _ _ _ .ret _ _ from ret3 (.slice none 0 0) (.int .i64 0) (.int .i64 3) rfl (Qam kj) (Qam kj) (Qam kj) ⟨rfl,x3⟩)
set_option maxRecDepth 100000 in
theorem Ql9 (ts : List NdV) (a_t:Option Addr) (c_t B1:Nat) (w:World) (ht:TrAt B1 w a_t ts) (htl:ts.length≤100000) (hmt:∀ i,i<ts.length→(ndi ts i).n.ms.length≤1000) (nd:NdV) (hok:NdOk nd.n) (B2:Nat) (hr:RdK .i64 B2 nd.n.ms (.slice nd.a nd.n.ms.length nd.c) w) (hc:chkT ts=true) (hs:QaD nd.n=true) (hf:0≤Qa7 ts nd.n.nm):Calls Tryd.prog 26 #[.slice a_t ts.length c_t,.agg (cat [#[.bool nd.n.us],#[.int .i64 nd.n.nm],ints .u8 (nd.n.key),ints .u8 (nd.n.sg),ints .u8 (nd.n.pa),#[.slice nd.a nd.n.ms.length nd.c]])] w (Ret w (.tuple #[.slice none 0 0,.int .i64 0,.int .i64 9])):=by
  refine enter 123 [(0,.slice a_t ts.length c_t),(1,.agg (cat [#[.bool nd.n.us],#[.int .i64 nd.n.nm],ints .u8 (nd.n.key),ints .u8 (nd.n.sg),ints .u8 (nd.n.pa),#[.slice nd.a nd.n.ms.length nd.c]]))] Tryd.func26 rfl rfl kj rfl ?_
  refine wp_seq_k fun K1 hK1=>?_
  refine Qab ?_
  refine Qan (cat [#[.bool nd.n.us],#[.int .i64 nd.n.nm],ints .u8 (nd.n.key),ints .u8 (nd.n.sg),ints .u8 (nd.n.pa),#[.slice nd.a nd.n.ms.length nd.c]]) 41 3 rfl kj kj fun g2 W1 l2 e1 r2_1=>?_
  have x1:Ext w W1:=Ext.tr (Rely.Ext.refl w) e1
  have b2:w.heap.size≤g2:=qT (Rely.Ext.refl w).size l2
  refine Qaa (.slice none 0 0) 4 rfl kj kj ?_
  refine Qaa (.int .i64 0) 5 rfl kj kj ?_
  refine Qaa (.int .i64 0) 6 rfl kj kj ?_
  refine Qae ?_
  refine hK1 _ _ ?_
  refine wp_seq_k fun K3 hK3=>?_
  refine wp_seq_k fun K4 hK4=>?_
  refine Qab ?_
  refine Qaa (.slice a_t ts.length c_t) 15 rfl kj kj ?_
  refine Qaj (.bool true) 12 #[.slice a_t ts.length c_t] 16 rfl kj kj (Qcs ts a_t c_t _ _ (TrAt.ext ht x1) htl (fun i hi=>qT (hmt i hi) (by decide)) true hc) fun W2 e2=>?_
  have x2:Ext w W2:=Ext.tr x1 e2
  refine Qaa (.bool false) 17 rfl kj kj ?_
  refine Qaa (.bool false) 18 rfl kj kj ?_
  have r2_2:=(Qah r2_1 e2)
  refine Qaa (.agg (cat [#[.bool nd.n.us],#[.int .i64 nd.n.nm],ints .u8 (nd.n.key),ints .u8 (nd.n.sg),ints .u8 (nd.n.pa),#[.slice nd.a nd.n.ms.length nd.c]])) 19 rfl kj (Qau 41 _ g2 41 _ _ r2_2 rfl kj kj (isz (n:=99) kj (by rw [Qac,Qac,Qac,Qac,Qac,Qac]; simp only [qS,cat,((Qaf _ _).trans hok.gl),((Qaf _ _).trans hok.kl),((Qaf _ _).trans hok.pl)]; rfl))) ?_
  refine Qaj (.bool true) 43 #[.agg (cat [#[.bool nd.n.us],#[.int .i64 nd.n.nm],ints .u8 (nd.n.key),ints .u8 (nd.n.sg),ints .u8 (nd.n.pa),#[.slice nd.a nd.n.ms.length nd.c]])] 20 rfl kj kj ((hs▸Qcv nd hok _)) fun W3 e3=>?_
  have x3:Ext w W3:=Ext.tr x2 e3
  refine Qaa (.bool false) 21 rfl kj kj ?_
  refine Qaa (.bool false) 22 rfl kj kj ?_
  refine Qae ?_
  refine hK4 _ _ ?_
  refine cond_false kj ?_
  refine wp_skip ?_
  refine hK3 _ _ ?_
  refine wp_seq_k fun K5 hK5=>?_
  refine wp_seq_k fun K6 hK6=>?_
  refine Qab ?_
  refine Qaa (.slice a_t ts.length c_t) 23 rfl kj kj ?_
  refine Qaa (.pointer (some ⟨g2,1,none⟩)) 24 rfl kj kj ?_
  have r2_3:=(Qah r2_2 e3)
  refine Qaa (.int .i64 nd.n.nm) 25 rfl kj (Qag 3 _ g2 1 41 _ (.int .i64 nd.n.nm) _ r2_3 rfl kj (Qal [#[.bool nd.n.us]] [#[.int .i64 nd.n.nm]] [ints .u8 (nd.n.key),ints .u8 (nd.n.sg),ints .u8 (nd.n.pa),#[.slice nd.a nd.n.ms.length nd.c]] 1 kj 0 _ rfl) kj) ?_
  refine Qaj (.int .i64 (Qa7 ts nd.n.nm)) 17 #[.slice a_t ts.length c_t,.int .i64 nd.n.nm] 26 rfl kj kj (Qfc ts a_t c_t _ _ (TrAt.ext ht x3) htl nd.n.nm) fun W4 e4=>?_
  have x4:Ext w W4:=Ext.tr x3 e4
  refine Qaa (.bool true) 27 rfl kj (Qai (u:=.bool (decide ((Qa7 ts nd.n.nm)≥0))) kj (congrArg Value.bool (decide_eq_true (by omega)))) ?_
  refine Qae ?_
  refine hK6 _ _ ?_
  refine cond_true kj ?_
  refine wp_seq_k fun K7 hK7=>?_
  refine Qab ?_
  refine Qaa (.slice none 0 0) 4 rfl kj kj ?_
  refine Qaa (.int .i64 0) 5 rfl kj kj ?_
  refine Qaa (.int .i64 9) 6 rfl kj kj ?_
  refine Qae ?_
  refine hK7 _ _ ?_
  refine wp_ret ?_
  repeat (first | with_reducible refine goR1 ?_ | with_reducible refine goR2 ?_)
  exact (show bodyPost _ _ _ .ret _ _ from ret3 (.slice none 0 0) (.int .i64 0) (.int .i64 9) rfl (Qam kj) (Qam kj) (Qam kj) ⟨rfl,x4⟩)
set_option maxRecDepth 100000 in
theorem Ql7 (ts : List NdV) (a_t:Option Addr) (c_t B1:Nat) (w:World) (ht:TrAt B1 w a_t ts) (htl:ts.length≤100000) (hmt:∀ i,i<ts.length→(ndi ts i).n.ms.length≤1000) (nd:NdV) (hok:NdOk nd.n) (B2:Nat) (hr:RdK .i64 B2 nd.n.ms (.slice nd.a nd.n.ms.length nd.c) w) (hc:chkT ts=true) (hs:QaD nd.n=true) (hf:Qa7 ts nd.n.nm<0) (L:Nat) (hL:leaves ((ts.length:Nat):Int)=((L:Nat):Int)) (hL3:L≤32) (hlen:ts.length+1=2*L) (h32:L=32) (hfu:∀ j,j<L→(ndi ts (2*j)).n.us=true):Calls Tryd.prog 26 #[.slice a_t ts.length c_t,.agg (cat [#[.bool nd.n.us],#[.int .i64 nd.n.nm],ints .u8 (nd.n.key),ints .u8 (nd.n.sg),ints .u8 (nd.n.pa),#[.slice nd.a nd.n.ms.length nd.c]])] w (Ret w (.tuple #[.slice none 0 0,.int .i64 0,.int .i64 5])):=by
 refine enter 123 [(0,.slice a_t ts.length c_t),(1,.agg (cat [#[.bool nd.n.us],#[.int .i64 nd.n.nm],ints .u8 (nd.n.key),ints .u8 (nd.n.sg),ints .u8 (nd.n.pa),#[.slice nd.a nd.n.ms.length nd.c]]))] Tryd.func26 rfl rfl kj rfl ?_
 refine wp_seq_k fun K1 hK1=>?_
 refine Qab ?_
 refine Qan (cat [#[.bool nd.n.us],#[.int .i64 nd.n.nm],ints .u8 (nd.n.key),ints .u8 (nd.n.sg),ints .u8 (nd.n.pa),#[.slice nd.a nd.n.ms.length nd.c]]) 41 3 rfl kj kj fun g2 W1 l2 e1 r2_1=>?_
 have x1:Ext w W1:=Ext.tr (Rely.Ext.refl w) e1
 have b2:w.heap.size≤g2:=qT (Rely.Ext.refl w).size l2
 refine Qaa (.slice none 0 0) 4 rfl kj kj ?_
 refine Qaa (.int .i64 0) 5 rfl kj kj ?_
 refine Qaa (.int .i64 0) 6 rfl kj kj ?_
 refine Qae ?_
 refine hK1 _ _ ?_
 refine wp_seq_k fun K3 hK3=>?_
 refine wp_seq_k fun K4 hK4=>?_
 refine Qab ?_
 refine Qaa (.slice a_t ts.length c_t) 15 rfl kj kj ?_
 refine Qaj (.bool true) 12 #[.slice a_t ts.length c_t] 16 rfl kj kj (Qcs ts a_t c_t _ _ (TrAt.ext ht x1) htl (fun i hi=>qT (hmt i hi) (by decide)) true hc) fun W2 e2=>?_
 have x2:Ext w W2:=Ext.tr x1 e2
 refine Qaa (.bool false) 17 rfl kj kj ?_
 refine Qaa (.bool false) 18 rfl kj kj ?_
 have r2_2:=(Qah r2_1 e2)
 refine Qaa (.agg (cat [#[.bool nd.n.us],#[.int .i64 nd.n.nm],ints .u8 (nd.n.key),ints .u8 (nd.n.sg),ints .u8 (nd.n.pa),#[.slice nd.a nd.n.ms.length nd.c]])) 19 rfl kj (Qau 41 _ g2 41 _ _ r2_2 rfl kj kj (isz (n:=99) kj (by rw [Qac,Qac,Qac,Qac,Qac,Qac]; simp only [qS,cat,((Qaf _ _).trans hok.gl),((Qaf _ _).trans hok.kl),((Qaf _ _).trans hok.pl)]; rfl))) ?_
 refine Qaj (.bool true) 43 #[.agg (cat [#[.bool nd.n.us],#[.int .i64 nd.n.nm],ints .u8 (nd.n.key),ints .u8 (nd.n.sg),ints .u8 (nd.n.pa),#[.slice nd.a nd.n.ms.length nd.c]])] 20 rfl kj kj ((hs▸Qcv nd hok _)) fun W3 e3=>?_
 have x3:Ext w W3:=Ext.tr x2 e3
 refine Qaa (.bool false) 21 rfl kj kj ?_
 refine Qaa (.bool false) 22 rfl kj kj ?_
 refine Qae ?_
 refine hK4 _ _ ?_
 refine cond_false kj ?_
 refine wp_skip ?_
 refine hK3 _ _ ?_
 refine wp_seq_k fun K5 hK5=>?_
 refine wp_seq_k fun K6 hK6=>?_
 refine Qab ?_
 refine Qaa (.slice a_t ts.length c_t) 23 rfl kj kj ?_
 refine Qaa (.pointer (some ⟨g2,1,none⟩)) 24 rfl kj kj ?_
 have r2_3:=(Qah r2_2 e3)
 refine Qaa (.int .i64 nd.n.nm) 25 rfl kj (Qag 3 _ g2 1 41 _ (.int .i64 nd.n.nm) _ r2_3 rfl kj (Qal [#[.bool nd.n.us]] [#[.int .i64 nd.n.nm]] [ints .u8 (nd.n.key),ints .u8 (nd.n.sg),ints .u8 (nd.n.pa),#[.slice nd.a nd.n.ms.length nd.c]] 1 kj 0 _ rfl) kj) ?_
 refine Qaj (.int .i64 (Qa7 ts nd.n.nm)) 17 #[.slice a_t ts.length c_t,.int .i64 nd.n.nm] 26 rfl kj kj (Qfc ts a_t c_t _ _ (TrAt.ext ht x3) htl nd.n.nm) fun W4 e4=>?_
 have x4:Ext w W4:=Ext.tr x3 e4
 refine Qaa (.bool false) 27 rfl kj (Qai (u:=.bool (decide ((Qa7 ts nd.n.nm)≥0))) kj (congrArg Value.bool (decide_eq_false (by omega)))) ?_
 refine Qae ?_
 refine hK6 _ _ ?_
 refine cond_false kj ?_
 refine wp_skip ?_
 refine hK5 _ _ ?_
 refine wp_seq_k fun K7 hK7=>?_
 refine Qab ?_
 refine Qaa (.int .i64 0) 7 rfl kj kj ?_
 refine Qae ?_
 refine hK7 _ _ ?_
 refine wp_seq_k fun K8 hK8=>?_
 refine wp_block ?_
 refine Qaz (fun (s1:Nat)=>[(0,.slice a_t ts.length c_t),(3,.pointer (some ⟨g2,0,none⟩)),(7,.int .i64 ((s1:Nat):Int))]) (fun (s1:Nat) W=>(s1≤L)∧(Ext W4 W)∧(Ext w W)) (fun (s1:Nat)=>L-s1) 0 ⟨rfl,rfl,rfl,trivial⟩ ⟨(Nat.zero_le _),(Rely.Ext.refl W4),x4⟩ fun s1 X1 V1 hI1=>?_
 obtain ⟨k,hs1⟩:∃ z,z=s1:=⟨_,rfl⟩
 subst hs1
 obtain ⟨hk,kk1,xx1⟩:=hI1
 replace hk:k≤L:=hk
 replace kk1:Ext W4 V1:=kk1
 replace xx1:Ext w V1:=xx1
 have e5:=kk1
 refine wp_seq_k fun K9 hK9=>?_
 refine wp_seq_k fun K10 hK10=>?_
 rcases (show k<L∨L=k by omega) with hq | hq
 ·skip
  obtain ⟨gyT,oyT,hay,hnys⟩:=TrAt.ext ht xx1
  have hny:=hnys (2*k) (by omega)
  obtain ⟨ny,eny⟩:∃ z,z=ndi ts (2*k):=⟨_,rfl⟩
  rw [←eny] at hny
  have oky:=hny.ok
  have rdy:=hny.rd
  have hyu:ny.n.us=true:=eny▸hfu k hq
  refine Qab ?_
  refine Qaa (.int .i64 ((k:Nat):Int)) 28 rfl kj kj ?_
  refine Qaa (.int .i64 (((2*k:Nat):Int))) 29 rfl kj (Qai (u:=.int .i64 (IntKind.i64.wrap (2*((k:Nat):Int)))) kj (congrArg (Value.int .i64) ((IntWalk.i64_in _ (by omega)).trans (by omega)))) ?_
  refine Qaa (.slice a_t ts.length c_t) 30 rfl kj kj ?_
  refine Qaa (.int .i64 ((ts.length:Nat):Int)) 31 rfl kj kj ?_
  refine Qaa (.bool true) 32 rfl kj (Qai (u:=.bool (decide (((2*k:Nat):Int)<((ts.length:Nat):Int)))) kj (congrArg Value.bool (decide_eq_true (by omega)))) ?_
  refine Qaa (.bool true) 33 rfl kj kj ?_
  refine Qaa (.slice a_t ts.length c_t) 34 rfl kj kj ?_
  refine Qaa (.int .i64 ((k:Nat):Int)) 35 rfl kj kj ?_
  refine Qaa (.int .i64 (((2*k:Nat):Int))) 36 rfl kj (Qai (u:=.int .i64 (IntKind.i64.wrap (2*((k:Nat):Int)))) kj (congrArg (Value.int .i64) ((IntWalk.i64_in _ (by omega)).trans (by omega)))) ?_
  refine Qaa (.pointer (some ⟨gyT,oyT+(2*k)*99,none⟩)) 37 rfl kj (Qao 23 _ _ .i64 (2*k) gyT oyT ts.length c_t 41 99 a_t (hay (by omega)) rfl kj kj kj kj (by omega)) ?_
  refine Qaa (.pointer (some ⟨gyT,oyT+(2*k)*99,none⟩)) 38 rfl kj kj ?_
  refine Qaa (.bool true) 39 rfl kj (Qak 4 _ _ (.bool true) ((NdAt.at3 hny).1.trans (congrArg (fun z=>some (Value.bool z)) hyu)) rfl kj kj) ?_
  refine Qaa (.bool true) 40 rfl kj kj ?_
  refine Qae ?_
  refine hK10 _ _ ?_
  refine cond_true kj ?_
  refine wp_skip ?_
  refine hK9 _ _ ?_
  refine wp_block ?_
  refine Qab ?_
  refine Qaa (.int .i64 ((k:Nat):Int)) 41 rfl kj kj ?_
  refine Qaa (.int .i64 ((k+1:Nat):Int)) 42 rfl kj (Qai (u:=.int .i64 (IntKind.i64.wrap (((k:Nat):Int)+1))) kj (congrArg (Value.int .i64) (i64n _ _ (by omega) (by omega)))) ?_
  refine Qaa (.int .i64 ((k+1:Nat):Int)) 7 rfl kj kj ?_
  refine Qae ?_
  repeat (first | with_reducible refine goX1 ?_ | with_reducible refine goX2 ?_ | with_reducible refine goX3 ?_)
  exact Qaq (k+1) ⟨rfl,rfl,rfl,trivial⟩ ⟨(by omega),e5,xx1⟩ (by show L-(k+1)<L-k; omega)
 ·skip
  refine Qab ?_
  refine Qaa (.int .i64 ((k:Nat):Int)) 28 rfl kj kj ?_
  refine Qaa (.int .i64 (((2*k:Nat):Int))) 29 rfl kj (Qai (u:=.int .i64 (IntKind.i64.wrap (2*((k:Nat):Int)))) kj (congrArg (Value.int .i64) ((IntWalk.i64_in _ (by omega)).trans (by omega)))) ?_
  refine Qaa (.slice a_t ts.length c_t) 30 rfl kj kj ?_
  refine Qaa (.int .i64 ((ts.length:Nat):Int)) 31 rfl kj kj ?_
  refine Qaa (.bool false) 32 rfl kj (Qai (u:=.bool (decide (((2*k:Nat):Int)<((ts.length:Nat):Int)))) kj (congrArg Value.bool (decide_eq_false (by omega)))) ?_
  refine Qaa (.bool false) 33 rfl kj kj ?_
  refine Qad 34 rfl kj ?_
  refine Qad 35 rfl kj ?_
  refine Qad 36 rfl kj ?_
  refine Qad 37 rfl kj ?_
  refine Qad 38 rfl kj ?_
  refine Qad 39 rfl kj ?_
  refine Qaa (.bool false) 40 rfl kj kj ?_
  refine Qae ?_
  refine hK10 _ _ ?_
  refine cond_false kj ?_
  refine wp_exit ?_
  refine hK8 _ _ ?_
  refine wp_seq_k fun K11 hK11=>?_
  refine wp_seq_k fun K12 hK12=>?_
  refine Qab ?_
  refine Qaa (.int .i64 ((k:Nat):Int)) 43 rfl kj kj ?_
  refine Qaa (.bool true) 44 rfl kj (Qai (u:=.bool ((((k:Nat):Int)==32))) kj (congrArg Value.bool (beq_iff_eq.2 (by omega)))) ?_
  refine Qae ?_
  refine hK12 _ _ ?_
  refine cond_true kj ?_
  refine wp_seq_k fun K13 hK13=>?_
  refine Qab ?_
  refine Qaa (.slice none 0 0) 4 rfl kj kj ?_
  refine Qaa (.int .i64 0) 5 rfl kj kj ?_
  refine Qaa (.int .i64 5) 6 rfl kj kj ?_
  refine Qae ?_
  refine hK13 _ _ ?_
  refine wp_ret ?_
  repeat (first | with_reducible refine goR1 ?_ | with_reducible refine goR2 ?_)
  exact (show bodyPost _ _ _ .ret _ _ from ret3 (.slice none 0 0) (.int .i64 0) (.int .i64 5) rfl (Qam kj) (Qam kj) (Qam kj) ⟨rfl,xx1⟩)
end Go.Proofs.YtcmaolmofgmkhaaDoor.Te
end
section
namespace Go.Proofs.YtcmaolmofgmkhaaDoor.Te
open Go Go.RowKit
open Rely Auto Own Seat Sha
theorem OwH.nodeH {base g M c i x:Nat} {ts:List NdV} {W:World} (hM:ts.length=M) (t:OwH base ts (.slice (some ⟨g,0,none⟩) M c) W (some i)) (hx:x<M) (hxi:x≠i):NdAt W.heap.size W g (0+x*99) (ndi ts x):=by
  subst hM
  obtain ⟨g',c',cur,e,q2,q3,q4,q5,q6,q7⟩:=t.opens (by omega)
  simp only [Value.slice.injEq,Option.some.injEq,Addr.mk.injEq] at e
  obtain ⟨⟨rfl,-⟩,-,rfl⟩:=e
  refine ⟨QaC q3,QaC q3,fun j u hu=>?_,RdK.here (OwnN.rd (t.nd x hx (by simpa using hxi)).2.2),t.ok x hx⟩
  have hj:j<99:=by have:=(Array.getElem?_eq_some_iff.1 hu).1; rw [Qbd _ (t.ok x hx)] at this; exact this
  rw [Nat.zero_add,QbR q3,q7 x hx j hj,hu]
theorem OwH.setFH {base g c i x M:Nat} {ts:List NdV} {ms:List Int} {a':Option Addr} {c':Nat} {W W':World} {cur:Array Value} (hM:ts.length=M) (t:OwH base ts (.slice (some ⟨g,0,none⟩) M c) W (some i)) (hx:x<M) (hxi:x≠i) (r:W.heap[g]? = some (.cells cur 41)) (p:Puts W g W') (r':W'.heap[g]? = some (.cells (cur.setIfInBounds (x*99+98) (.slice a' ms.length c')) 41))
    (hn:NdIn base W ⟨{ (ndi ts x).n with ms:=ms },a',c'⟩) (ha:∀ j,j<M→j≠x→j≠i→∀ g,ob ⟨{ (ndi ts x).n with ms:=ms },a',c'⟩=some g→ob (ndi ts j)≠some g):OwH base (ts.set x ⟨{ (ndi ts x).n with ms:=ms },a',c'⟩) (.slice (some ⟨g,0,none⟩) M c) W' (some i):=by
  subst hM
  obtain ⟨g',c2,cur',e,q2,q3,q4,q5,q6,q7⟩:=t.opens (by omega)
  simp only [Value.slice.injEq,Option.some.injEq,Addr.mk.injEq] at e
  obtain ⟨⟨rfl,-⟩,-,rfl⟩:=e
  rw [r] at q3
  simp only [Option.some.injEq,Obj.cells.injEq,and_true] at q3
  subst q3
  obtain ⟨n,hnn⟩:∃ n:NdV,n=⟨{ (ndi ts x).n with ms:=ms },a',c'⟩:=⟨_,rfl⟩
  rw [←hnn] at hn ha ⊢
  have kp:∀ m:NdV,NdIn base W m→NdIn base W' m:=fun m hm=>hm.keep fun k hk=>p.2.2.2.2 k fun e=>by
    obtain ⟨cur2,r2⟩:=QbD hm.2.2 hk
    rw [e,r] at r2
    simp at r2
  have:=OwH.made (h:=some i) (ts:=ts.set x n) (c:=c) q2 r' (by rw [Array.size_setIfInBounds]; exact q4) (by rw [List.length_set]; exact q5) q6 (fun k hk j hj=>by
    rw [List.length_set] at hk
    rw [Qa8 n hx,Array.getElem?_setIfInBounds]
    by_cases e:k=x
    · subst e
      rw [if_pos rfl,hnn,QjI _ (t.ok k hk) ms a' c' j hj]
      by_cases e2:j=98
      · rw [if_pos (by omega),if_pos e2,if_pos (by omega)]
      · rw [if_neg (by omega),if_neg e2,q7 k hk j hj]
    · rw [if_neg (by omega),if_neg e,q7 k hk j hj]) (fun k hk=>by
    rw [List.length_set] at hk
    rw [Qa8 n hx]
    split
    · exact hn.1
    · exact t.ok k hk) (fun k hk hki=>by
    rw [List.length_set] at hk
    rw [Qa8 n hx]
    split
    · exact kp n hn
    · exact kp _ (t.nd k hk hki)) (QeC hx t.ap (fun _ _ q=>q) fun _ j hj hji hjh=>ha j hj hji (by simpa using hjh))
  rwa [List.length_set] at this
section
variable {ds : List Deferred} {P : Program} {ops : Array Oper} {Q : Exit → Act → World → Prop} {rest : List Oper} {o : Oper} {N : Nat} {L : Env} {W : World}
theorem Qfq (ty : TypeId) (x y:Operand) {base g c i u M:Nat} {ts:List NdV} {ms:List Int} {a':Option Addr} {c':Nat} (hM:ts.length=M) (t:OwH base ts (.slice (some ⟨g,0,none⟩) M c) W (some i)) (hu:u<M) (hui:u≠i)
    (hn:NdIn base W ⟨{ (ndi ts u).n with ms:=ms },a',c'⟩) (ha:∀ j,j<M→j≠u→j≠i→∀ g,ob ⟨{ (ndi ts u).n with ms:=ms },a',c'⟩=some g→ob (ndi ts j)≠some g)
    (ho:o.op=.store ty x y) (hx:Rely.look (envN N L) x=.pointer (some ⟨g,0+u*99+98,none⟩)) (hy:Rely.look (envN N L) y=.slice a' ms.length c') (hi1:(P.info? ty).map (·.size)=some 1) (hd:o.dst=none) (hg:Qbe ops o N L=some true)
    (kk:∀ W',Puts W g W'→OwH base (ts.set u ⟨{ (ndi ts u).n with ms:=ms },a',c'⟩) (.slice (some ⟨g,0,none⟩) M c) W' (some i)→WL P ops Q rest (Qat ds N L) W'):WL P ops Q (o::rest) (Qat ds N L) W:=by
  obtain ⟨g',c2,cur,e,q2,q3,q4,q5,q6,q7⟩:=t.opens (by omega)
  simp only [Value.slice.injEq,Option.some.injEq,Addr.mk.injEq] at e
  obtain ⟨⟨rfl,-⟩,-,rfl⟩:=e
  rw [Nat.zero_add] at hx
  exact Qa5 g cur _ _ q3 hd hg (QaB ty x y g (u*99+98) _ cur (.slice a' ms.length c') q3 ho hx hy hi1 (by simp only [Nat.blt_eq]; omega) rfl rfl) fun W' p r'=>kk W' p (t.setFH hM hu hui q3 p r' hn ha)
end
theorem Qgs {y n:Int} {k:Nat} (hy:Qax y n=true) (hk:k<6) (hall:∀ i,i≤k→0≤upn y n i):upN y n k∉(List.range k).map (upN y n)∧((List.range k).map (upN y n)).Nodup:=by
  have inj:∀ a b,a≤k→b≤k→upN y n a=upN y n b→a=b:=fun a b ha hb e=>by
    have e1:=Qb9 (hall a ha)
    have e2:=Qb9 (hall b hb)
    exact Qhg hy (by omega) (by omega) (hall a ha) (by omega)
  refine ⟨fun h=>?_,Qeh List.nodup_range fun a ha b hb e=>inj a b (by have:=List.mem_range.1 ha; omega) (by have:=List.mem_range.1 hb; omega) e⟩
  obtain ⟨j,hj,e⟩:=List.mem_map.1 h
  have hj:=List.mem_range.1 hj
  have:=inj j k (by omega) (qR _) e
  omega
end Go.Proofs.YtcmaolmofgmkhaaDoor.Te
end
section
namespace Go.Proofs.YtcmaolmofgmkhaaDoor.Te
open Go Go.RowKit
open Rely Auto Own Seat Sha
set_option maxRecDepth 100000 in
theorem QlC (ts : List NdV) (a_t:Option Addr) (c_t B1:Nat) (w:World) (ht:TrAt B1 w a_t ts) (htl:ts.length≤100000) (hmt:∀ i,i<ts.length→(ndi ts i).n.ms.length≤1000) (nd:NdV) (hok:NdOk nd.n) (hc:chkT ts=true) (hs:QaD nd.n=true) (hf:Qa7 ts nd.n.nm<0) (L:Nat) (hL:leaves ((ts.length:Nat):Int)=((L:Nat):Int)) (hL3:L≤32) (hlen:ts.length+1=2*L) (hTr:Qaw ((L:Nat):Int)=true) (F:Form ts L) (m:Nat) (hmL:m<L) (hfu:∀ j,j<m→(ndi ts (2*j)).n.us=true) (hfm:(ndi ts (2*m)).n.us=false) (hm9:∀ i,i<ts.length→(ndi ts i).n.ms.length≤900) (hms:nd.n.ms=[]) (B3:Nat) (hr0:RdK .i64 B3 [] (.slice nd.a 0 nd.c) w):Calls Tryd.prog 26 #[.slice a_t ts.length c_t,.agg (cat [#[.bool nd.n.us],#[.int .i64 nd.n.nm],ints .u8 (nd.n.key),ints .u8 (nd.n.sg),ints .u8 (nd.n.pa),#[.slice nd.a nd.n.ms.length nd.c]])] w (Qbw w (fun v W=>∃ us vs,AsC us ts∧AsC vs (addT us m nd L)∧∃ u,v=.tuple #[u,.int .i64 ((m:Nat):Int),.int .i64 0]∧FrT w.heap.size vs u W)):=by
 obtain ⟨K,hK,hneg,hall⟩:=Qhi (2*((m:Nat):Int)) ((L:Nat):Int)
 refine enter 123 [(0,.slice a_t ts.length c_t),(1,.agg (cat [#[.bool nd.n.us],#[.int .i64 nd.n.nm],ints .u8 (nd.n.key),ints .u8 (nd.n.sg),ints .u8 (nd.n.pa),#[.slice nd.a nd.n.ms.length nd.c]]))] Tryd.func26 rfl rfl kj rfl ?_
 refine wp_seq_k fun K1 hK1=>?_
 refine Qab ?_
 refine Qan (cat [#[.bool nd.n.us],#[.int .i64 nd.n.nm],ints .u8 (nd.n.key),ints .u8 (nd.n.sg),ints .u8 (nd.n.pa),#[.slice nd.a nd.n.ms.length nd.c]]) 41 3 rfl kj kj fun g2 W1 l2 e1 r2_1=>?_
 have x1:Ext w W1:=Ext.tr (Rely.Ext.refl w) e1
 have b2:w.heap.size≤g2:=qT (Rely.Ext.refl w).size l2
 refine Qaa (.slice none 0 0) 4 rfl kj kj ?_
 refine Qaa (.int .i64 0) 5 rfl kj kj ?_
 refine Qaa (.int .i64 0) 6 rfl kj kj ?_
 refine Qae ?_
 refine hK1 _ _ ?_
 refine wp_seq_k fun K3 hK3=>?_
 refine wp_seq_k fun K4 hK4=>?_
 refine Qab ?_
 refine Qaa (.slice a_t ts.length c_t) 15 rfl kj kj ?_
 refine Qaj (.bool true) 12 #[.slice a_t ts.length c_t] 16 rfl kj kj (Qcs ts a_t c_t _ _ (TrAt.ext ht x1) htl (fun i hi=>qT (hmt i hi) (by decide)) true hc) fun W2 e2=>?_
 have x2:Ext w W2:=Ext.tr x1 e2
 refine Qaa (.bool false) 17 rfl kj kj ?_
 refine Qaa (.bool false) 18 rfl kj kj ?_
 have r2_2:=(Qah r2_1 e2)
 refine Qaa (.agg (cat [#[.bool nd.n.us],#[.int .i64 nd.n.nm],ints .u8 (nd.n.key),ints .u8 (nd.n.sg),ints .u8 (nd.n.pa),#[.slice nd.a nd.n.ms.length nd.c]])) 19 rfl kj (Qau 41 _ g2 41 _ _ r2_2 rfl kj kj (isz (n:=99) kj (by rw [Qac,Qac,Qac,Qac,Qac,Qac]; simp only [qS,cat,((Qaf _ _).trans hok.gl),((Qaf _ _).trans hok.kl),((Qaf _ _).trans hok.pl)]; rfl))) ?_
 refine Qaj (.bool true) 43 #[.agg (cat [#[.bool nd.n.us],#[.int .i64 nd.n.nm],ints .u8 (nd.n.key),ints .u8 (nd.n.sg),ints .u8 (nd.n.pa),#[.slice nd.a nd.n.ms.length nd.c]])] 20 rfl kj kj ((hs▸Qcv nd hok _)) fun W3 e3=>?_
 have x3:Ext w W3:=Ext.tr x2 e3
 refine Qaa (.bool false) 21 rfl kj kj ?_
 refine Qaa (.bool false) 22 rfl kj kj ?_
 refine Qae ?_
 refine hK4 _ _ ?_
 refine cond_false kj ?_
 refine wp_skip ?_
 refine hK3 _ _ ?_
 refine wp_seq_k fun K5 hK5=>?_
 refine wp_seq_k fun K6 hK6=>?_
 refine Qab ?_
 refine Qaa (.slice a_t ts.length c_t) 23 rfl kj kj ?_
 refine Qaa (.pointer (some ⟨g2,1,none⟩)) 24 rfl kj kj ?_
 have r2_3:=(Qah r2_2 e3)
 refine Qaa (.int .i64 nd.n.nm) 25 rfl kj (Qag 3 _ g2 1 41 _ (.int .i64 nd.n.nm) _ r2_3 rfl kj (Qal [#[.bool nd.n.us]] [#[.int .i64 nd.n.nm]] [ints .u8 (nd.n.key),ints .u8 (nd.n.sg),ints .u8 (nd.n.pa),#[.slice nd.a nd.n.ms.length nd.c]] 1 kj 0 _ rfl) kj) ?_
 refine Qaj (.int .i64 (Qa7 ts nd.n.nm)) 17 #[.slice a_t ts.length c_t,.int .i64 nd.n.nm] 26 rfl kj kj (Qfc ts a_t c_t _ _ (TrAt.ext ht x3) htl nd.n.nm) fun W4 e4=>?_
 have x4:Ext w W4:=Ext.tr x3 e4
 refine Qaa (.bool false) 27 rfl kj (Qai (u:=.bool (decide ((Qa7 ts nd.n.nm)≥0))) kj (congrArg Value.bool (decide_eq_false (by omega)))) ?_
 refine Qae ?_
 refine hK6 _ _ ?_
 refine cond_false kj ?_
 refine wp_skip ?_
 refine hK5 _ _ ?_
 refine wp_seq_k fun K7 hK7=>?_
 refine Qab ?_
 refine Qaa (.int .i64 0) 7 rfl kj kj ?_
 refine Qae ?_
 refine hK7 _ _ ?_
 refine wp_seq_k fun K8 hK8=>?_
 refine wp_block ?_
 refine Qaz (fun (s1:Nat)=>[(0,.slice a_t ts.length c_t),(3,.pointer (some ⟨g2,0,none⟩)),(7,.int .i64 ((s1:Nat):Int))]) (fun (s1:Nat) W=>(s1≤m)∧(Ext W4 W)∧(Ext w W)) (fun (s1:Nat)=>m-s1) 0 ⟨rfl,rfl,rfl,trivial⟩ ⟨(Nat.zero_le _),(Rely.Ext.refl W4),x4⟩ fun s1 X1 V1 hI1=>?_
 obtain ⟨k,hs1⟩:∃ z,z=s1:=⟨_,rfl⟩
 subst hs1
 obtain ⟨hk,kk1,xx1⟩:=hI1
 replace hk:k≤m:=hk
 replace kk1:Ext W4 V1:=kk1
 replace xx1:Ext w V1:=xx1
 have e5:=kk1
 refine wp_seq_k fun K9 hK9=>?_
 refine wp_seq_k fun K10 hK10=>?_
 rcases (show k<m∨m=k by omega) with hq | hq
 ·skip
  obtain ⟨gyT,oyT,hay,hnys⟩:=TrAt.ext ht xx1
  have hny:=hnys (2*k) (by omega)
  obtain ⟨ny,eny⟩:∃ z,z=ndi ts (2*k):=⟨_,rfl⟩
  rw [←eny] at hny
  have oky:=hny.ok
  have rdy:=hny.rd
  have hyu:ny.n.us=true:=eny▸hfu k hq
  refine Qab ?_
  refine Qaa (.int .i64 ((k:Nat):Int)) 28 rfl kj kj ?_
  refine Qaa (.int .i64 (((2*k:Nat):Int))) 29 rfl kj (Qai (u:=.int .i64 (IntKind.i64.wrap (2*((k:Nat):Int)))) kj (congrArg (Value.int .i64) ((IntWalk.i64_in _ (by omega)).trans (by omega)))) ?_
  refine Qaa (.slice a_t ts.length c_t) 30 rfl kj kj ?_
  refine Qaa (.int .i64 ((ts.length:Nat):Int)) 31 rfl kj kj ?_
  refine Qaa (.bool true) 32 rfl kj (Qai (u:=.bool (decide (((2*k:Nat):Int)<((ts.length:Nat):Int)))) kj (congrArg Value.bool (decide_eq_true (by omega)))) ?_
  refine Qaa (.bool true) 33 rfl kj kj ?_
  refine Qaa (.slice a_t ts.length c_t) 34 rfl kj kj ?_
  refine Qaa (.int .i64 ((k:Nat):Int)) 35 rfl kj kj ?_
  refine Qaa (.int .i64 (((2*k:Nat):Int))) 36 rfl kj (Qai (u:=.int .i64 (IntKind.i64.wrap (2*((k:Nat):Int)))) kj (congrArg (Value.int .i64) ((IntWalk.i64_in _ (by omega)).trans (by omega)))) ?_
  refine Qaa (.pointer (some ⟨gyT,oyT+(2*k)*99,none⟩)) 37 rfl kj (Qao 23 _ _ .i64 (2*k) gyT oyT ts.length c_t 41 99 a_t (hay (by omega)) rfl kj kj kj kj (by omega)) ?_
  refine Qaa (.pointer (some ⟨gyT,oyT+(2*k)*99,none⟩)) 38 rfl kj kj ?_
  refine Qaa (.bool true) 39 rfl kj (Qak 4 _ _ (.bool true) ((NdAt.at3 hny).1.trans (congrArg (fun z=>some (Value.bool z)) hyu)) rfl kj kj) ?_
  refine Qaa (.bool true) 40 rfl kj kj ?_
  refine Qae ?_
  refine hK10 _ _ ?_
  refine cond_true kj ?_
  refine wp_skip ?_
  refine hK9 _ _ ?_
  refine wp_block ?_
  refine Qab ?_
  refine Qaa (.int .i64 ((k:Nat):Int)) 41 rfl kj kj ?_
  refine Qaa (.int .i64 ((k+1:Nat):Int)) 42 rfl kj (Qai (u:=.int .i64 (IntKind.i64.wrap (((k:Nat):Int)+1))) kj (congrArg (Value.int .i64) (i64n _ _ (by omega) (by omega)))) ?_
  refine Qaa (.int .i64 ((k+1:Nat):Int)) 7 rfl kj kj ?_
  refine Qae ?_
  repeat (first | with_reducible refine goX1 ?_ | with_reducible refine goX2 ?_ | with_reducible refine goX3 ?_)
  exact Qaq (k+1) ⟨rfl,rfl,rfl,trivial⟩ ⟨(by omega),e5,xx1⟩ (by show m-(k+1)<m-k; omega)
 ·skip
  obtain ⟨gyT,oyT,hay,hnys⟩:=TrAt.ext ht xx1
  have hny:=hnys (2*k) (by omega)
  obtain ⟨ny,eny⟩:∃ z,z=ndi ts (2*k):=⟨_,rfl⟩
  rw [←eny] at hny
  have oky:=hny.ok
  have rdy:=hny.rd
  have hyu:ny.n.us=false:=eny▸hq▸hfm
  refine Qab ?_
  refine Qaa (.int .i64 ((k:Nat):Int)) 28 rfl kj kj ?_
  refine Qaa (.int .i64 (((2*k:Nat):Int))) 29 rfl kj (Qai (u:=.int .i64 (IntKind.i64.wrap (2*((k:Nat):Int)))) kj (congrArg (Value.int .i64) ((IntWalk.i64_in _ (by omega)).trans (by omega)))) ?_
  refine Qaa (.slice a_t ts.length c_t) 30 rfl kj kj ?_
  refine Qaa (.int .i64 ((ts.length:Nat):Int)) 31 rfl kj kj ?_
  refine Qaa (.bool true) 32 rfl kj (Qai (u:=.bool (decide (((2*k:Nat):Int)<((ts.length:Nat):Int)))) kj (congrArg Value.bool (decide_eq_true (by omega)))) ?_
  refine Qaa (.bool true) 33 rfl kj kj ?_
  refine Qaa (.slice a_t ts.length c_t) 34 rfl kj kj ?_
  refine Qaa (.int .i64 ((k:Nat):Int)) 35 rfl kj kj ?_
  refine Qaa (.int .i64 (((2*k:Nat):Int))) 36 rfl kj (Qai (u:=.int .i64 (IntKind.i64.wrap (2*((k:Nat):Int)))) kj (congrArg (Value.int .i64) ((IntWalk.i64_in _ (by omega)).trans (by omega)))) ?_
  refine Qaa (.pointer (some ⟨gyT,oyT+(2*k)*99,none⟩)) 37 rfl kj (Qao 23 _ _ .i64 (2*k) gyT oyT ts.length c_t 41 99 a_t (hay (by omega)) rfl kj kj kj kj (by omega)) ?_
  refine Qaa (.pointer (some ⟨gyT,oyT+(2*k)*99,none⟩)) 38 rfl kj kj ?_
  refine Qaa (.bool false) 39 rfl kj (Qak 4 _ _ (.bool false) ((NdAt.at3 hny).1.trans (congrArg (fun z=>some (Value.bool z)) hyu)) rfl kj kj) ?_
  refine Qaa (.bool false) 40 rfl kj kj ?_
  refine Qae ?_
  refine hK10 _ _ ?_
  refine cond_false kj ?_
  refine wp_exit ?_
  refine hK8 _ _ ?_
  refine wp_seq_k fun K11 hK11=>?_
  refine wp_seq_k fun K12 hK12=>?_
  rw [←hq]
  skip
  ·skip
   refine Qab ?_
   refine Qaa (.int .i64 ((m:Nat):Int)) 43 rfl kj kj ?_
   refine Qaa (.bool false) 44 rfl kj (Qai (u:=.bool ((((m:Nat):Int)==32))) kj (congrArg Value.bool (beq_eq_false_iff_ne.2 (by omega)))) ?_
   refine Qae ?_
   refine hK12 _ _ ?_
   refine cond_false kj ?_
   refine wp_skip ?_
   refine hK11 _ _ ?_
   refine wp_seq_k fun K13 hK13=>?_
   refine Qab ?_
   refine Qaa (.slice a_t ts.length c_t) 45 rfl kj kj ?_
   refine Qa0 (fun v W'=>(fun v W9=>∃ us,AsC us ts∧OwT V1.heap.size us v W9) v W'∧Ext V1 W') 21 #[.slice a_t ts.length c_t] 46 rfl kj kj ((Qgq ts a_t _ _ _ (TrAt.ext ht xx1) htl hmt).mono (by rintro e w' ⟨v,rfl,e1,hv⟩; exact ⟨v,rfl,hv,e1⟩)) fun vv14 W6 hh14=>?_
   obtain ⟨hv14,e6⟩:=hh14
   have x6:Ext w W6:=Ext.tr xx1 e6
   obtain ⟨us,has,hU⟩:=hv14
   obtain ⟨gO,cO,cuO,hvO,lgO,rO6,-,hcO,-⟩:=hU.opens (by have:=has.1; omega)
   subst hvO
   have hM:us.length=ts.length:=has.1
   rw [hM] at hU hcO ⊢
   have bgO:w.heap.size≤gO:=qT xx1.size lgO
   refine Qaa (.slice (some ⟨gO,0,none⟩) ts.length cO) 8 rfl kj kj ?_
   refine Qae ?_
   refine hK13 _ _ ?_
   refine wp_seq_k fun K16 hK16=>?_
   refine wp_block ?_
   refine Qaz (fun (s2:Nat)=>[(0,.slice a_t ts.length c_t),(3,.pointer (some ⟨g2,0,none⟩)),(7,.int .i64 ((m:Nat):Int)),(8,.slice (some ⟨gO,0,none⟩) ts.length cO)]) (fun (s2:Nat) W=>(s2=0)∧(Ext W6 W)∧(Ext w W)) (fun (s2:Nat)=>0) 0 ⟨rfl,rfl,rfl,rfl,trivial⟩ ⟨rfl,(Rely.Ext.refl W6),x6⟩ fun s2 X2 V2 hI2=>?_
   obtain ⟨q,hs2⟩:∃ z,z=s2:=⟨_,rfl⟩
   subst hs2
   obtain ⟨hq0,kk2,xx2⟩:=hI2
   replace hq0:q=0:=hq0
   replace kk2:Ext W6 V2:=kk2
   replace xx2:Ext w V2:=xx2
   have e7:=kk2
   refine wp_seq_k fun K17 hK17=>?_
   refine wp_seq_k fun K18 hK18=>?_
   refine Qab ?_
   refine Qaa (.slice (some ⟨gO,0,none⟩) ts.length cO) 47 rfl kj kj ?_
   refine Qaa (.int .i64 ((ts.length:Nat):Int)) 48 rfl kj kj ?_
   refine Qaa (.int .i64 ((m:Nat):Int)) 49 rfl kj kj ?_
   refine Qaa (.int .i64 (((2*m:Nat):Int))) 50 rfl kj (Qai (u:=.int .i64 (IntKind.i64.wrap (2*((m:Nat):Int)))) kj (congrArg (Value.int .i64) ((IntWalk.i64_in _ (by omega)).trans (by omega)))) ?_
   refine Qaa (.int .i64 (((2*m)+1:Nat):Int)) 51 rfl kj (Qai (u:=.int .i64 (IntKind.i64.wrap ((((2*m:Nat):Int))+1))) kj (congrArg (Value.int .i64) (i64n _ _ (by omega) (by omega)))) ?_
   refine Qaa (.bool false) 52 rfl kj (Qai (u:=.bool (decide (((ts.length:Nat):Int)<(((2*m)+1:Nat):Int)))) kj (congrArg Value.bool (decide_eq_false (by omega)))) ?_
   refine Qae ?_
   refine hK18 _ _ ?_
   refine cond_false kj ?_
   refine wp_exit ?_
   refine hK16 _ _ ?_
   refine wp_seq_k fun K19 hK19=>?_
   refine Qab ?_
   refine Qaa (.slice (some ⟨gO,0,none⟩) ts.length cO) 64 rfl kj kj ?_
   refine Qaa (.int .i64 ((m:Nat):Int)) 65 rfl kj kj ?_
   refine Qaa (.int .i64 (((2*m:Nat):Int))) 66 rfl kj (Qai (u:=.int .i64 (IntKind.i64.wrap (2*((m:Nat):Int)))) kj (congrArg (Value.int .i64) ((IntWalk.i64_in _ (by omega)).trans (by omega)))) ?_
   have r2_4:=(Qah r2_3 e4)
   have r2_5:=(Qah r2_4 e5)
   have r2_6:=(Qah r2_5 e6)
   have r2_7:=(Qah r2_6 e7)
   refine Qaa (.agg (cat [#[.bool nd.n.us],#[.int .i64 nd.n.nm],ints .u8 (nd.n.key),ints .u8 (nd.n.sg),ints .u8 (nd.n.pa),#[.slice nd.a nd.n.ms.length nd.c]])) 67 rfl kj (Qau 41 _ g2 41 _ _ r2_7 rfl kj kj (isz (n:=99) kj (by rw [Qac,Qac,Qac,Qac,Qac,Qac]; simp only [qS,cat,((Qaf _ _).trans hok.gl),((Qaf _ _).trans hok.kl),((Qaf _ _).trans hok.pl)]; rfl))) ?_
   refine Qaa (.pointer (some ⟨gO,0+(2*m)*99,none⟩)) 68 rfl kj (Qa1 23 _ _ .i64 (2*m) gO 0 ts.length cO 41 99 rfl kj kj kj kj (by omega)) ?_
   refine QeL 41 _ _ gO (2*m) cO (n:=nd) hM (OwH.ext hU e7) (by omega) hok rfl kj kj kj rfl kj fun W8 p8 hV0=>?_
   have x8:Ext w W8:=Puts.ext p8 xx2 bgO
   obtain ⟨-,cuV0,rV8⟩:=hV0.rowBlock (g:=gO) rfl
   refine Qae ?_
   refine hK19 _ _ ?_
   refine wp_seq_k fun K20 hK20=>?_
   refine Qab ?_
   refine Qaa (.int .i64 ((m:Nat):Int)) 69 rfl kj kj ?_
   refine Qaa (.int .i64 (2*((m:Nat):Int))) 70 rfl kj (Qai (u:=.int .i64 (IntKind.i64.wrap (2*((m:Nat):Int)))) kj (congrArg (Value.int .i64) (IntWalk.i64_in _ (by omega)))) ?_
   refine Qaa (.slice (some ⟨gO,0,none⟩) ts.length cO) 71 rfl kj kj ?_
   refine Qaa (.int .i64 ((ts.length:Nat):Int)) 72 rfl kj kj ?_
   refine Qaj (.int .i64 ((L:Nat):Int)) 32 #[.int .i64 ((ts.length:Nat):Int)] 73 rfl kj kj (Qcp ((ts.length:Nat):Int) _ (QbG htl hL) _) fun W9 e9=>?_
   have x9:Ext w W9:=Ext.tr x8 e9
   refine Qa0 (fun v W'=>(OwnN .i64 3 W9.heap.size (upL (2*((m:Nat):Int)) ((L:Nat):Int) K)) v W'∧Ext W9 W') 54 #[.int .i64 (2*((m:Nat):Int)),.int .i64 ((L:Nat):Int)] 74 rfl kj kj ((QhD (2*((m:Nat):Int)) ((L:Nat):Int) K hK hneg hall _).mono (by rintro e w' ⟨v,rfl,e1,hv⟩; exact ⟨v,rfl,hv,e1⟩)) fun vv21 W10 hh21=>?_
   obtain ⟨hv21,e10⟩:=hh21
   have x10:Ext w W10:=Ext.tr x9 e10
   have r15_9:=(Qah rV8 e9)
   have nbp:Value.ownBlock vv21≠some gO:=OwnN.nb hv21 (QaC r15_9)
   have hrp:=OwnN.rd hv21
   obtain ⟨ap,cp,hvp,-⟩:=id hrp
   subst hvp
   refine Qaa (.slice ap ((upL (2*((m:Nat):Int)) ((L:Nat):Int) K).length) cp) 11 rfl kj kj ?_
   refine Qae ?_
   refine hK20 _ _ ?_
   refine wp_seq_k fun K22 hK22=>?_
   refine wp_seq_k fun K23 hK23=>?_
   refine Qab ?_
   refine Qaa (.int .i64 0) 12 rfl kj kj ?_
   refine Qae ?_
   refine hK23 _ _ ?_
   refine wp_block ?_
   have y8_9:Ext W8 W9:=(Rely.Ext.trans (Rely.Ext.refl W8) e9)
   have y8_10:Ext W8 W10:=(Rely.Ext.trans y8_9 e10)
   refine Qaz (fun (s3:Nat×List NdV)=>[(7,.int .i64 ((m:Nat):Int)),(8,.slice (some ⟨gO,0,none⟩) ts.length cO),(11,.slice ap ((upL (2*((m:Nat):Int)) ((L:Nat):Int) K).length) cp),(12,.int .i64 ((s3.1:Nat):Int))]) (fun (s3:Nat×List NdV) W=>(s3.1≤(upL (2*((m:Nat):Int)) ((L:Nat):Int) K).length)∧(s3.2.length=ts.length)∧(AsC s3.2 (insL (us.set (2*m) nd) (2*((m:Nat):Int)) ((L:Nat):Int) ((m:Nat):Int) (List.range s3.1)))∧(ndi s3.2 (2*m)=nd)∧(OwH V1.heap.size s3.2 (.slice (some ⟨gO,0,none⟩) ts.length cO) W (some (2*m)))∧(QaO [gO] W10 W)∧(Ext w W)) (fun (s3:Nat×List NdV)=>(upL (2*((m:Nat):Int)) ((L:Nat):Int) K).length-s3.1) (0,(us.set (2*m) nd)) ⟨rfl,rfl,rfl,rfl,trivial⟩ ⟨(Nat.zero_le _),((List.length_set ..).trans hM),(AsC.refl _),(by rw [Qa8 nd (by omega),if_pos rfl]),(OwH.ext hV0 y8_10),(QaO.refl [gO] W10),x10⟩ fun s3 X3 V3 hI3=>?_
   obtain ⟨k,vs⟩:=s3
   obtain ⟨hk,hvl,hvc,hh2,hV,kk3,xx3⟩:=hI3
   replace hk:k≤(upL (2*((m:Nat):Int)) ((L:Nat):Int) K).length:=hk
   replace hvl:vs.length=ts.length:=hvl
   replace hvc:AsC vs (insL (us.set (2*m) nd) (2*((m:Nat):Int)) ((L:Nat):Int) ((m:Nat):Int) (List.range k)):=hvc
   replace hh2:ndi vs (2*m)=nd:=hh2
   replace hV:OwH V1.heap.size vs (.slice (some ⟨gO,0,none⟩) ts.length cO) V3 (some (2*m)):=hV
   replace kk3:QaO [gO] W10 V3:=kk3
   replace xx3:Ext w V3:=xx3
   have q11:=kk3
   obtain ⟨-,cuV,rOv⟩:=hV.rowBlock (g:=gO) rfl
   refine wp_seq_k fun K24 hK24=>?_
   refine wp_seq_k fun K25 hK25=>?_
   refine Qab ?_
   refine Qaa (.int .i64 ((k:Nat):Int)) 75 rfl kj kj ?_
   refine Qaa (.slice ap ((upL (2*((m:Nat):Int)) ((L:Nat):Int) K).length) cp) 76 rfl kj kj ?_
   refine Qaa (.int .i64 (((upL (2*((m:Nat):Int)) ((L:Nat):Int) K).length:Nat):Int)) 77 rfl kj kj ?_
   refine Qaa (.bool (decide (((k:Nat):Int)<(((upL (2*((m:Nat):Int)) ((L:Nat):Int) K).length:Nat):Int)))) 78 rfl kj kj ?_
   refine Qae ?_
   refine hK25 _ _ ?_
   refine Qas (t:=decide (((k:Nat):Int)<(((upL (2*((m:Nat):Int)) ((L:Nat):Int) K).length:Nat):Int))) kj (fun c26=>?_) (fun c26=>?_)
   ·skip
    have hlt78:k<(upL (2*((m:Nat):Int)) ((L:Nat):Int) K).length:=by have:=of_decide_eq_true c26; omega
    have f28_11:=(OwnN.keepsL hv21 q11 (QfP nbp QhX))
    have hnx_27:(upL (2*((m:Nat):Int)) ((L:Nat):Int) K).length=(upL (2*((m:Nat):Int)) ((L:Nat):Int) K).length:=rfl
    obtain ⟨gcx_27,ocx_27,hax_27,hlx_27,hcx_27⟩:=QaV (OwnN.rd f28_11) (by rw [hnx_27]; omega)
    have hkK:k<K:=by rw [QcM] at hlt78; exact hlt78
    have hk0:=hall k hkK
    obtain ⟨u,hu⟩:∃ u,u=upN (2*((m:Nat):Int)) ((L:Nat):Int) k:=⟨_,rfl⟩
    have hue:=Qb9 hk0
    rw [←hu] at hue
    have huo:=QcL hk0
    have hul:=Qdx (x:=2*((m:Nat):Int)) k hTr
    rw [←hu] at hul
    have hnu:nth (upL (2*((m:Nat):Int)) ((L:Nat):Int) K) k=((u:Nat):Int):=(QfC hkK).trans hue.symm
    have hnt:=OwH.nodeH hvl hV (x:=u) (by omega) (by omega)
    obtain ⟨nt,ent⟩:∃ z,z=ndi vs u:=⟨_,rfl⟩
    rw [←ent] at hnt
    have okt:=hnt.ok
    obtain ⟨hpn,hpd⟩:=Qgs (Qel hTr (show (0:Int)≤((m:Nat):Int) by omega) (show ((m:Nat):Int)<((L:Nat):Int) by omega)) (show k<6 by omega) (fun i hi=>hall i (by omega))
    have hcu:nt.n=(ndi ts u).n:=by
     rw [ent,hvc.all u,QeZ _ _ (fun z _=>by rw [List.length_set,hM]; exact QhL hTr (by omega) z) hpd,if_neg (fun q=>hpn (by rw [←hu]; exact q.1)),Qa8 nd (by omega),if_neg (show u≠2*m by omega)]; exact has.all u
    have hil:upN (2*((m:Nat):Int)) ((L:Nat):Int) k<(insL (us.set (2*m) nd) (2*((m:Nat):Int)) ((L:Nat):Int) ((m:Nat):Int) (List.range k)).length:=by rw [Qbx,List.length_set,hM,←hu]; omega
    refine wp_skip ?_
    refine hK24 _ _ ?_
    refine wp_seq_k fun K29 hK29=>?_
    refine wp_block ?_
    refine wp_seq_k fun K30 hK30=>?_
    refine wp_seq_k fun K31 hK31=>?_
    rcases (show nt.n.us=true∨nt.n.us=false from by cases nt.n.us; exact .inr rfl; exact .inl rfl) with hq | hq
    ·skip
     have hnx_32:(upL (2*((m:Nat):Int)) ((L:Nat):Int) K).length=(upL (2*((m:Nat):Int)) ((L:Nat):Int) K).length:=rfl
     obtain ⟨gcx_32,ocx_32,hax_32,hlx_32,hcx_32⟩:=QaV (OwnN.rd f28_11) (by rw [hnx_32]; omega)
     have hmp:=F.ms_lt (x:=u) (by omega) (by omega) (hcu▸hq)
     rw [←hcu] at hmp
     have hmn:((m:Nat):Int)∉nt.n.ms:=fun q=>by have h9:=(hmp.2 _ q).2.2; rw [Int.toNat_natCast,hfm] at h9; cases h9
     have hntm:nt.n.ms.length≤900:=by rw [hcu]; exact hm9 u (by omega)
     refine Qab ?_
     refine Qaa (.slice (some ⟨gO,0,none⟩) ts.length cO) 81 rfl kj kj ?_
     refine Qaa (.slice ap ((upL (2*((m:Nat):Int)) ((L:Nat):Int) K).length) cp) 82 rfl kj kj ?_
     refine Qaa (.int .i64 ((k:Nat):Int)) 83 rfl kj kj ?_
     refine Qaa (.pointer (some ⟨gcx_32,ocx_32+k,none⟩)) 84 rfl kj (Qa9 36 _ _ .i64 k gcx_32 ocx_32 ((upL (2*((m:Nat):Int)) ((L:Nat):Int) K).length) cp 3 ap _ hax_32 rfl rfl kj kj kj kj (Nat.lt_of_lt_of_eq (show k<(upL (2*((m:Nat):Int)) ((L:Nat):Int) K).length by omega) hnx_32.symm)) ?_
     refine Qaa (.int .i64 ((u:Nat):Int)) 85 rfl kj (by rw [←hnu]; exact (Qak 3 _ _ (.int .i64 (nth (upL (2*((m:Nat):Int)) ((L:Nat):Int) K) (k))) (hcx_32 k (Nat.lt_of_lt_of_eq (show k<(upL (2*((m:Nat):Int)) ((L:Nat):Int) K).length by omega) hnx_32.symm)) rfl kj kj)) ?_
     refine Qaa (.pointer (some ⟨gO,0+u*99,none⟩)) 86 rfl kj (Qa1 23 _ _ .i64 u gO 0 ts.length cO 41 99 rfl kj kj kj kj (by omega)) ?_
     refine Qaa (.pointer (some ⟨gO,0+u*99,none⟩)) 87 rfl kj kj ?_
     refine Qaa (.bool true) 88 rfl kj (Qak 4 _ _ (.bool true) ((NdAt.at3 hnt).1.trans (congrArg (fun z=>some (Value.bool z)) hq)) rfl kj kj) ?_
     refine Qaa (.bool false) 89 rfl kj kj ?_
     refine Qae ?_
     refine hK31 _ _ ?_
     refine cond_false kj ?_
     refine wp_skip ?_
     refine hK30 _ _ ?_
     refine wp_seq_k fun K33 hK33=>?_
     refine Qab ?_
     refine Qaa (.slice none 0 0) 13 rfl kj kj ?_
     refine Qae ?_
     refine hK33 _ _ ?_
     refine wp_seq_k fun K34 hK34=>?_
     refine wp_seq_k fun K35 hK35=>?_
     refine Qab ?_
     refine Qaa (.int .i64 0) 14 rfl kj kj ?_
     refine Qae ?_
     refine hK35 _ _ ?_
     refine wp_block ?_
     refine Qaz (fun (s4:Nat×Value)=>[(7,.int .i64 ((m:Nat):Int)),(8,.slice (some ⟨gO,0,none⟩) ts.length cO),(11,.slice ap ((upL (2*((m:Nat):Int)) ((L:Nat):Int) K).length) cp),(12,.int .i64 ((k:Nat):Int)),(13,s4.2),(14,.int .i64 ((s4.1:Nat):Int))]) (fun (s4:Nat×Value) W=>(s4.1≤32)∧(OwnN .i64 3 V3.heap.size (wl (QbX nt.n.ms m s4.1)) s4.2 W)∧(Below V3.heap.size V3 W)∧(Ext w W)) (fun (s4:Nat×Value)=>32-s4.1) (0,(.slice none 0 0)) ⟨rfl,rfl,rfl,rfl,rfl,rfl,trivial⟩ ⟨(Nat.zero_le _),(QcD _ _ _ _),(RowKit.Below.refl _ V3),xx3⟩ fun s4 X4 V4 hI4=>?_
     obtain ⟨j,uu⟩:=s4
     obtain ⟨hj,huu,kk4,xx4⟩:=hI4
     replace hj:j≤32:=hj
     replace huu:OwnN .i64 3 V3.heap.size (wl (QbX nt.n.ms m j)) uu V4:=huu
     replace kk4:Below V3.heap.size V3 V4:=kk4
     replace xx4:Ext w V4:=xx4
     have l12:=kk4
     refine wp_seq_k fun K36 hK36=>?_
     refine wp_seq_k fun K37 hK37=>?_
     refine Qab ?_
     refine Qaa (.int .i64 ((j:Nat):Int)) 90 rfl kj kj ?_
     refine Qaa (.bool (decide (((j:Nat):Int)<32))) 91 rfl kj kj ?_
     refine Qae ?_
     refine hK37 _ _ ?_
     refine Qas (t:=decide (((j:Nat):Int)<32)) kj (fun c38=>?_) (fun c38=>?_)
     ·skip
      have hlt91:j<32:=by have:=of_decide_eq_true c38; omega
      refine wp_skip ?_
      refine hK36 _ _ ?_
      refine wp_seq_k fun K39 hK39=>?_
      refine wp_block ?_
      refine wp_seq_k fun K40 hK40=>?_
      have y11_12:Ext V3 V4:=(Ext.low (Rely.Ext.refl V3) l12 (Rely.Ext.refl V3).size)
      have hnj:=NdAt.ext hnt y11_12
      have f42_12:=(OwnN.low (n:=0) f28_11 f28_11 l12)
      have hnx_41:(upL (2*((m:Nat):Int)) ((L:Nat):Int) K).length=(upL (2*((m:Nat):Int)) ((L:Nat):Int) K).length:=rfl
      obtain ⟨gcx_41,ocx_41,hax_41,hlx_41,hcx_41⟩:=QaV (OwnN.rd f42_12) (by rw [hnx_41]; omega)
      rcases (show j=m∨(j≠m∧((j:Nat):Int)∈nt.n.ms)∨(j≠m∧((j:Nat):Int)∉nt.n.ms) from by by_cases h8:j=m; exact .inl h8; by_cases h7:((j:Nat):Int)∈nt.n.ms; exact .inr (.inl ⟨h8,h7⟩); exact .inr (.inr ⟨h8,h7⟩)) with hqj | hqj | hqj
      ·skip
       refine Qab ?_
       refine Qaa (.int .i64 ((j:Nat):Int)) 94 rfl kj kj ?_
       refine Qaa (.int .i64 ((m:Nat):Int)) 95 rfl kj kj ?_
       refine Qaa (.bool true) 96 rfl kj (Qai (u:=.bool ((((j:Nat):Int)==((m:Nat):Int)))) kj (congrArg Value.bool (beq_iff_eq.2 (by omega)))) ?_
       refine Qaa (.bool true) 97 rfl kj kj ?_
       refine Qad 98 rfl kj ?_
       refine Qad 99 rfl kj ?_
       refine Qad 100 rfl kj ?_
       refine Qad 101 rfl kj ?_
       refine Qad 102 rfl kj ?_
       refine Qad 103 rfl kj ?_
       refine Qad 104 rfl kj ?_
       refine Qad 105 rfl kj ?_
       refine Qad 106 rfl kj ?_
       refine Qad 107 rfl kj ?_
       refine Qaa (.bool true) 108 rfl kj kj ?_
       refine Qae ?_
       refine hK40 _ _ ?_
       refine cond_true kj ?_
       refine Qab ?_
       refine Qaa (uu) 109 rfl kj kj ?_
       refine Qaa (.int .i64 ((j:Nat):Int)) 110 rfl kj kj ?_
       refine Qbu (ints .i64 ([((j:Nat):Int)])) 3 1 111 rfl kj kj fun g43 W13 l43 e13 r43_13=>?_
       have x13:Ext w W13:=Ext.tr xx4 e13
       have b43:w.heap.size≤g43:=qT xx4.size l43
       have f44_13:=(huu.ext e13)
       have y11_13:Ext V3 W13:=(Rely.Ext.trans y11_12 e13)
       refine Qbz (k:=.i64) (T:=3) (xs:=wl (QbX nt.n.ms m j)) (ys:=[((j:Nat):Int)]) (V:=V3) 8 (.tmp 109) (.tmp 111) 36 rfl kj kj (by decide) 112 rfl kj kj kj f44_13 (QcY (xs:=[((j:Nat):Int)]) (n:=1) rfl r43_13 (QaC r43_13) (show 1≤maxLen from by decide)) (by have h9:=QdL nt.n.ms m j; rw [Qgc]; show (QbX nt.n.ms m j).length+1≤1000000000; omega) y11_13 fun u2 W14 f45 y14 l14=>?_
       have x14:Ext w W14:=Ext.low x13 l14 xx3.size
       refine Qaa (u2) 13 rfl kj kj ?_
       refine Qae ?_
       refine hK39 _ _ ?_
       refine Qab ?_
       refine Qaa (.int .i64 ((j:Nat):Int)) 92 rfl kj kj ?_
       refine Qaa (.int .i64 ((j+1:Nat):Int)) 93 rfl kj (Qai (u:=.int .i64 (IntKind.i64.wrap (((j:Nat):Int)+1))) kj (congrArg (Value.int .i64) (i64n _ _ (by omega) (by omega)))) ?_
       refine Qaa (.int .i64 ((j+1:Nat):Int)) 14 rfl kj kj ?_
       refine Qae ?_
       repeat (first | with_reducible refine goX1 ?_ | with_reducible refine goX2 ?_ | with_reducible refine goX3 ?_)
       exact Qaq ((j+1),u2) ⟨rfl,rfl,rfl,rfl,rfl,rfl,trivial⟩ ⟨(by omega),(by rw [QdK (.inl hqj),Qgd]; exact f45),(RowKit.Below.trans (RowKit.Below.trans l12 (RowKit.Below.mono e13 y11_12.size)) l14),x14⟩ (by show 32-(j+1)<32-j; omega)
      ·skip
       refine Qab ?_
       refine Qaa (.int .i64 ((j:Nat):Int)) 94 rfl kj kj ?_
       refine Qaa (.int .i64 ((m:Nat):Int)) 95 rfl kj kj ?_
       refine Qaa (.bool false) 96 rfl kj (Qai (u:=.bool ((((j:Nat):Int)==((m:Nat):Int)))) kj (congrArg Value.bool (beq_eq_false_iff_ne.2 (by omega)))) ?_
       refine Qaa (.bool false) 97 rfl kj kj ?_
       refine Qaa (.int .i64 ((j:Nat):Int)) 98 rfl kj kj ?_
       refine Qaa (.slice (some ⟨gO,0,none⟩) ts.length cO) 99 rfl kj kj ?_
       refine Qaa (.slice ap ((upL (2*((m:Nat):Int)) ((L:Nat):Int) K).length) cp) 100 rfl kj kj ?_
       refine Qaa (.int .i64 ((k:Nat):Int)) 101 rfl kj kj ?_
       refine Qaa (.pointer (some ⟨gcx_41,ocx_41+k,none⟩)) 102 rfl kj (Qa9 36 _ _ .i64 k gcx_41 ocx_41 ((upL (2*((m:Nat):Int)) ((L:Nat):Int) K).length) cp 3 ap _ hax_41 rfl rfl kj kj kj kj (Nat.lt_of_lt_of_eq (show k<(upL (2*((m:Nat):Int)) ((L:Nat):Int) K).length by omega) hnx_41.symm)) ?_
       refine Qaa (.int .i64 ((u:Nat):Int)) 103 rfl kj (by rw [←hnu]; exact (Qak 3 _ _ (.int .i64 (nth (upL (2*((m:Nat):Int)) ((L:Nat):Int) K) (k))) (hcx_41 k (Nat.lt_of_lt_of_eq (show k<(upL (2*((m:Nat):Int)) ((L:Nat):Int) K).length by omega) hnx_41.symm)) rfl kj kj)) ?_
       refine Qaa (.pointer (some ⟨gO,0+u*99,none⟩)) 104 rfl kj (Qa1 23 _ _ .i64 u gO 0 ts.length cO 41 99 rfl kj kj kj kj (by omega)) ?_
       refine Qaa (.pointer (some ⟨gO,0+u*99+98,none⟩)) 105 rfl kj kj ?_
       refine Qaa (.slice nt.a nt.n.ms.length nt.c) 106 rfl kj (Qak 36 _ _ (.slice nt.a nt.n.ms.length nt.c) (NdAt.at3 hnj).2.2 rfl kj kj) ?_
       refine Qaj (.bool true) 34 #[.int .i64 ((j:Nat):Int),.slice nt.a nt.n.ms.length nt.c] 107 rfl kj kj (inRb nt.n.ms ((j:Nat):Int) nt.a nt.c _ _ (qT hntm (by decide)) (RdK.here (RdK.ext hnj.rd (Rely.Ext.refl V4))) true (decide_eq_true hqj.2)) fun W13 e13=>?_
       have x13:Ext w W13:=Ext.tr xx4 e13
       refine Qaa (.bool true) 108 rfl kj kj ?_
       refine Qae ?_
       refine hK40 _ _ ?_
       refine cond_true kj ?_
       refine Qab ?_
       refine Qaa (uu) 109 rfl kj kj ?_
       refine Qaa (.int .i64 ((j:Nat):Int)) 110 rfl kj kj ?_
       refine Qbu (ints .i64 ([((j:Nat):Int)])) 3 1 111 rfl kj kj fun g46 W14 l46 e14 r46_14=>?_
       have x14:Ext w W14:=Ext.tr x13 e14
       have b46:w.heap.size≤g46:=qT x13.size l46
       have f47_13:=(huu.ext e13)
       have f48_14:=(f47_13.ext e14)
       have y11_13:Ext V3 W13:=(Rely.Ext.trans y11_12 e13)
       have y11_14:Ext V3 W14:=(Rely.Ext.trans y11_13 e14)
       refine Qbz (k:=.i64) (T:=3) (xs:=wl (QbX nt.n.ms m j)) (ys:=[((j:Nat):Int)]) (V:=V3) 8 (.tmp 109) (.tmp 111) 36 rfl kj kj (by decide) 112 rfl kj kj kj f48_14 (QcY (xs:=[((j:Nat):Int)]) (n:=1) rfl r46_14 (QaC r46_14) (show 1≤maxLen from by decide)) (by have h9:=QdL nt.n.ms m j; rw [Qgc]; show (QbX nt.n.ms m j).length+1≤1000000000; omega) y11_14 fun u2 W15 f49 y15 l15=>?_
       have x15:Ext w W15:=Ext.low x14 l15 xx3.size
       refine Qaa (u2) 13 rfl kj kj ?_
       refine Qae ?_
       refine hK39 _ _ ?_
       refine Qab ?_
       refine Qaa (.int .i64 ((j:Nat):Int)) 92 rfl kj kj ?_
       refine Qaa (.int .i64 ((j+1:Nat):Int)) 93 rfl kj (Qai (u:=.int .i64 (IntKind.i64.wrap (((j:Nat):Int)+1))) kj (congrArg (Value.int .i64) (i64n _ _ (by omega) (by omega)))) ?_
       refine Qaa (.int .i64 ((j+1:Nat):Int)) 14 rfl kj kj ?_
       refine Qae ?_
       repeat (first | with_reducible refine goX1 ?_ | with_reducible refine goX2 ?_ | with_reducible refine goX3 ?_)
       exact Qaq ((j+1),u2) ⟨rfl,rfl,rfl,rfl,rfl,rfl,trivial⟩ ⟨(by omega),(by rw [QdK (.inr hqj.2),Qgd]; exact f49),(RowKit.Below.trans (RowKit.Below.trans (RowKit.Below.trans l12 (RowKit.Below.mono e13 y11_12.size)) (RowKit.Below.mono e14 y11_13.size)) l15),x15⟩ (by show 32-(j+1)<32-j; omega)
      ·skip
       refine Qab ?_
       refine Qaa (.int .i64 ((j:Nat):Int)) 94 rfl kj kj ?_
       refine Qaa (.int .i64 ((m:Nat):Int)) 95 rfl kj kj ?_
       refine Qaa (.bool false) 96 rfl kj (Qai (u:=.bool ((((j:Nat):Int)==((m:Nat):Int)))) kj (congrArg Value.bool (beq_eq_false_iff_ne.2 (by omega)))) ?_
       refine Qaa (.bool false) 97 rfl kj kj ?_
       refine Qaa (.int .i64 ((j:Nat):Int)) 98 rfl kj kj ?_
       refine Qaa (.slice (some ⟨gO,0,none⟩) ts.length cO) 99 rfl kj kj ?_
       refine Qaa (.slice ap ((upL (2*((m:Nat):Int)) ((L:Nat):Int) K).length) cp) 100 rfl kj kj ?_
       refine Qaa (.int .i64 ((k:Nat):Int)) 101 rfl kj kj ?_
       refine Qaa (.pointer (some ⟨gcx_41,ocx_41+k,none⟩)) 102 rfl kj (Qa9 36 _ _ .i64 k gcx_41 ocx_41 ((upL (2*((m:Nat):Int)) ((L:Nat):Int) K).length) cp 3 ap _ hax_41 rfl rfl kj kj kj kj (Nat.lt_of_lt_of_eq (show k<(upL (2*((m:Nat):Int)) ((L:Nat):Int) K).length by omega) hnx_41.symm)) ?_
       refine Qaa (.int .i64 ((u:Nat):Int)) 103 rfl kj (by rw [←hnu]; exact (Qak 3 _ _ (.int .i64 (nth (upL (2*((m:Nat):Int)) ((L:Nat):Int) K) (k))) (hcx_41 k (Nat.lt_of_lt_of_eq (show k<(upL (2*((m:Nat):Int)) ((L:Nat):Int) K).length by omega) hnx_41.symm)) rfl kj kj)) ?_
       refine Qaa (.pointer (some ⟨gO,0+u*99,none⟩)) 104 rfl kj (Qa1 23 _ _ .i64 u gO 0 ts.length cO 41 99 rfl kj kj kj kj (by omega)) ?_
       refine Qaa (.pointer (some ⟨gO,0+u*99+98,none⟩)) 105 rfl kj kj ?_
       refine Qaa (.slice nt.a nt.n.ms.length nt.c) 106 rfl kj (Qak 36 _ _ (.slice nt.a nt.n.ms.length nt.c) (NdAt.at3 hnj).2.2 rfl kj kj) ?_
       refine Qaj (.bool false) 34 #[.int .i64 ((j:Nat):Int),.slice nt.a nt.n.ms.length nt.c] 107 rfl kj kj (inRb nt.n.ms ((j:Nat):Int) nt.a nt.c _ _ (qT hntm (by decide)) (RdK.here (RdK.ext hnj.rd (Rely.Ext.refl V4))) false (decide_eq_false hqj.2)) fun W13 e13=>?_
       have x13:Ext w W13:=Ext.tr xx4 e13
       refine Qaa (.bool false) 108 rfl kj kj ?_
       refine Qae ?_
       refine hK40 _ _ ?_
       refine cond_false kj ?_
       refine wp_skip ?_
       refine hK39 _ _ ?_
       refine Qab ?_
       refine Qaa (.int .i64 ((j:Nat):Int)) 92 rfl kj kj ?_
       refine Qaa (.int .i64 ((j+1:Nat):Int)) 93 rfl kj (Qai (u:=.int .i64 (IntKind.i64.wrap (((j:Nat):Int)+1))) kj (congrArg (Value.int .i64) (i64n _ _ (by omega) (by omega)))) ?_
       refine Qaa (.int .i64 ((j+1:Nat):Int)) 14 rfl kj kj ?_
       refine Qae ?_
       have f50_13:=(huu.ext e13)
       repeat (first | with_reducible refine goX1 ?_ | with_reducible refine goX2 ?_ | with_reducible refine goX3 ?_)
       exact Qaq ((j+1),uu) ⟨rfl,rfl,rfl,rfl,rfl,rfl,trivial⟩ ⟨(by omega),(by rw [QhN hqj.1 hqj.2]; exact f50_13),(RowKit.Below.trans l12 (RowKit.Below.mono e13 y11_12.size)),x13⟩ (by show 32-(j+1)<32-j; omega)
     ·skip
      have heq91:j=32:=by have:=of_decide_eq_false c38; omega
      refine wp_exit ?_
      refine hK34 _ _ ?_
      have f52_12:=(OwnN.low (n:=0) f28_11 f28_11 l12)
      have hnx_51:(upL (2*((m:Nat):Int)) ((L:Nat):Int) K).length=(upL (2*((m:Nat):Int)) ((L:Nat):Int) K).length:=rfl
      obtain ⟨gcx_51,ocx_51,hax_51,hlx_51,hcx_51⟩:=QaV (OwnN.rd f52_12) (by rw [hnx_51]; omega)
      skip
      ·skip
       refine Qab ?_
       refine Qaa (.slice (some ⟨gO,0,none⟩) ts.length cO) 113 rfl kj kj ?_
       refine Qaa (.slice ap ((upL (2*((m:Nat):Int)) ((L:Nat):Int) K).length) cp) 114 rfl kj kj ?_
       refine Qaa (.int .i64 ((k:Nat):Int)) 115 rfl kj kj ?_
       refine Qaa (.pointer (some ⟨gcx_51,ocx_51+k,none⟩)) 116 rfl kj (Qa9 36 _ _ .i64 k gcx_51 ocx_51 ((upL (2*((m:Nat):Int)) ((L:Nat):Int) K).length) cp 3 ap _ hax_51 rfl rfl kj kj kj kj (Nat.lt_of_lt_of_eq (show k<(upL (2*((m:Nat):Int)) ((L:Nat):Int) K).length by omega) hnx_51.symm)) ?_
       refine Qaa (.int .i64 ((u:Nat):Int)) 117 rfl kj (by rw [←hnu]; exact (Qak 3 _ _ (.int .i64 (nth (upL (2*((m:Nat):Int)) ((L:Nat):Int) K) (k))) (hcx_51 k (Nat.lt_of_lt_of_eq (show k<(upL (2*((m:Nat):Int)) ((L:Nat):Int) K).length by omega) hnx_51.symm)) rfl kj kj)) ?_
       refine Qaa (uu) 118 rfl kj kj ?_
       refine Qaa (.pointer (some ⟨gO,0+u*99,none⟩)) 119 rfl kj (Qa1 23 _ _ .i64 u gO 0 ts.length cO 41 99 rfl kj kj kj kj (by omega)) ?_
       refine Qaa (.pointer (some ⟨gO,0+u*99+98,none⟩)) 120 rfl kj kj ?_
       have y11_12:Ext V3 V4:=(Ext.low (Rely.Ext.refl V3) l12 (Rely.Ext.refl V3).size)
       have hV1:=OwH.ext hV y11_12
       have hl5:=huu
       rw [heq91,Qgz hmp.1 (fun j hj=>⟨(hmp.2 j hj).1,(hmp.2 j hj).2.1⟩) (by omega) hmn] at hl5
       obtain ⟨a6,c6,hv6,-⟩:=id (OwnN.rd hl5)
       rw [hv6] at hl5
       have hlen6:(insA nt.n.ms (posI nt.n.ms ((m:Nat):Int)) ((m:Nat):Int)).length≤1000:=by rw [QcH (Qdt _ _)]; omega
       have hn6:NdIn V1.heap.size V4 ⟨{ (ndi vs u).n with ms:=insA nt.n.ms (posI nt.n.ms ((m:Nat):Int)) ((m:Nat):Int) },a6,c6⟩:=⟨⟨(ent▸okt).kl,(ent▸okt).gl,(ent▸okt).pl,(ent▸okt).kb,(ent▸okt).gb,(ent▸okt).pb⟩,hlen6,OwnN.base (qT (qT (qT (qT (qT (qT (qT (qR _) e6.size) e7.size) (qE p8.2.2.2.1.symm)) e9.size) e10.size) (QaO.size q11)) (qR _)) hl5⟩
       have ha6:∀ j,j<ts.length→j≠u→j≠2*m→∀ g,ob ⟨{ (ndi vs u).n with ms:=insA nt.n.ms (posI nt.n.ms ((m:Nat):Int)) ((m:Nat):Int) },a6,c6⟩=some g→ob (ndi vs j)≠some g:=fun j hj hju hjh g h1 h2=>by have h3:=OwnN.ge hl5 h1; have:=(hV.nd j (by omega) (by simpa using hjh)).lt h2; omega
       refine Qfq 36 _ _ (ms:=insA nt.n.ms (posI nt.n.ms ((m:Nat):Int)) ((m:Nat):Int)) (a':=a6) (c':=c6) hvl hV1 (by omega) (by omega) hn6 ha6 rfl kj hv6 kj rfl kj fun W13 p13 hV2=>?_
       have x13:Ext w W13:=Puts.ext p13 xx4 bgO
       refine Qae ?_
       refine hK29 _ _ ?_
       refine Qab ?_
       refine Qaa (.int .i64 ((k:Nat):Int)) 79 rfl kj kj ?_
       refine Qaa (.int .i64 ((k+1:Nat):Int)) 80 rfl kj (Qai (u:=.int .i64 (IntKind.i64.wrap (((k:Nat):Int)+1))) kj (congrArg (Value.int .i64) (i64n _ _ (by omega) (by omega)))) ?_
       refine Qaa (.int .i64 ((k+1:Nat):Int)) 12 rfl kj kj ?_
       refine Qae ?_
       repeat (first | with_reducible refine goX1 ?_ | with_reducible refine goX2 ?_ | with_reducible refine goX3 ?_)
       exact Qaq ((k+1),(vs.set u ⟨{ (ndi vs u).n with ms:=insA nt.n.ms (posI nt.n.ms ((m:Nat):Int)) ((m:Nat):Int) },a6,c6⟩)) ⟨rfl,rfl,rfl,rfl,trivial⟩ ⟨(by omega),((List.length_set ..).trans hvl),(by rw [List.range_succ,QbZ,ent]; have:=AsC.step (i:=((m:Nat):Int)) (a:=a6) (c:=c6) hvc hil (by rw [←hu,←ent]; exact hq); rw [←hu] at this; exact this),(by rw [Qa8 _ (by omega),if_neg (by omega)]; exact hh2),hV2,(QaO.puts (QaO.low q11 l12 (qT (QaO.size q11) (qR _))) p13 (.inl (by simp))),x13⟩ (by show (upL (2*((m:Nat):Int)) ((L:Nat):Int) K).length-(k+1)<(upL (2*((m:Nat):Int)) ((L:Nat):Int) K).length-k; omega)
    ·skip
     have hnx_53:(upL (2*((m:Nat):Int)) ((L:Nat):Int) K).length=(upL (2*((m:Nat):Int)) ((L:Nat):Int) K).length:=rfl
     obtain ⟨gcx_53,ocx_53,hax_53,hlx_53,hcx_53⟩:=QaV (OwnN.rd f28_11) (by rw [hnx_53]; omega)
     refine Qab ?_
     refine Qaa (.slice (some ⟨gO,0,none⟩) ts.length cO) 81 rfl kj kj ?_
     refine Qaa (.slice ap ((upL (2*((m:Nat):Int)) ((L:Nat):Int) K).length) cp) 82 rfl kj kj ?_
     refine Qaa (.int .i64 ((k:Nat):Int)) 83 rfl kj kj ?_
     refine Qaa (.pointer (some ⟨gcx_53,ocx_53+k,none⟩)) 84 rfl kj (Qa9 36 _ _ .i64 k gcx_53 ocx_53 ((upL (2*((m:Nat):Int)) ((L:Nat):Int) K).length) cp 3 ap _ hax_53 rfl rfl kj kj kj kj (Nat.lt_of_lt_of_eq (show k<(upL (2*((m:Nat):Int)) ((L:Nat):Int) K).length by omega) hnx_53.symm)) ?_
     refine Qaa (.int .i64 ((u:Nat):Int)) 85 rfl kj (by rw [←hnu]; exact (Qak 3 _ _ (.int .i64 (nth (upL (2*((m:Nat):Int)) ((L:Nat):Int) K) (k))) (hcx_53 k (Nat.lt_of_lt_of_eq (show k<(upL (2*((m:Nat):Int)) ((L:Nat):Int) K).length by omega) hnx_53.symm)) rfl kj kj)) ?_
     refine Qaa (.pointer (some ⟨gO,0+u*99,none⟩)) 86 rfl kj (Qa1 23 _ _ .i64 u gO 0 ts.length cO 41 99 rfl kj kj kj kj (by omega)) ?_
     refine Qaa (.pointer (some ⟨gO,0+u*99,none⟩)) 87 rfl kj kj ?_
     refine Qaa (.bool false) 88 rfl kj (Qak 4 _ _ (.bool false) ((NdAt.at3 hnt).1.trans (congrArg (fun z=>some (Value.bool z)) hq)) rfl kj kj) ?_
     refine Qaa (.bool true) 89 rfl kj kj ?_
     refine Qae ?_
     refine hK31 _ _ ?_
     refine cond_true kj ?_
     refine wp_exit ?_
     refine hK29 _ _ ?_
     refine Qab ?_
     refine Qaa (.int .i64 ((k:Nat):Int)) 79 rfl kj kj ?_
     refine Qaa (.int .i64 ((k+1:Nat):Int)) 80 rfl kj (Qai (u:=.int .i64 (IntKind.i64.wrap (((k:Nat):Int)+1))) kj (congrArg (Value.int .i64) (i64n _ _ (by omega) (by omega)))) ?_
     refine Qaa (.int .i64 ((k+1:Nat):Int)) 12 rfl kj kj ?_
     refine Qae ?_
     repeat (first | with_reducible refine goX1 ?_ | with_reducible refine goX2 ?_ | with_reducible refine goX3 ?_)
     exact Qaq ((k+1),vs) ⟨rfl,rfl,rfl,rfl,trivial⟩ ⟨(by omega),hvl,(by rw [List.range_succ,QbZ]; exact hvc.stay hil (by rw [←hu,←ent]; exact hq)),hh2,(OwH.ext hV (Rely.Ext.refl V3)),q11,xx3⟩ (by show (upL (2*((m:Nat):Int)) ((L:Nat):Int) K).length-(k+1)<(upL (2*((m:Nat):Int)) ((L:Nat):Int) K).length-k; omega)
   ·skip
    have heq78:k=(upL (2*((m:Nat):Int)) ((L:Nat):Int) K).length:=by have:=of_decide_eq_false c26; omega
    refine wp_exit ?_
    refine hK22 _ _ ?_
    refine wp_seq_k fun K54 hK54=>?_
    refine Qab ?_
    refine Qaa (.slice (some ⟨gO,0,none⟩) ts.length cO) 121 rfl kj kj ?_
    refine Qaa (.int .i64 ((m:Nat):Int)) 122 rfl kj kj ?_
    refine Qaa (.slice (some ⟨gO,0,none⟩) ts.length cO) 4 rfl kj kj ?_
    refine Qaa (.int .i64 ((m:Nat):Int)) 5 rfl kj kj ?_
    refine Qaa (.int .i64 0) 6 rfl kj kj ?_
    refine Qae ?_
    refine hK54 _ _ ?_
    refine wp_ret ?_
    repeat (first | with_reducible refine goR1 ?_ | with_reducible refine goR2 ?_)
    have hcE:AsC vs (insT (us.set (2*m) nd) (2*((m:Nat):Int)) ((L:Nat):Int) ((m:Nat):Int)):=by have h9:=hvc; rw [heq78,QcM,←Qec hK hneg hall] at h9; exact h9
    have hVf:=hV.low xx1.size
    have hms2:(ndi vs (2*m)).n.ms=[]:=by rw [hh2]; exact hms
    rw [←hvl] at hVf
    have hfr:=hVf.frE hms2 (by rw [hh2]; exact rdE hr0)
    rw [hvl] at hfr
    exact (show bodyPost _ _ _ .ret _ _ from ret3 (.slice (some ⟨gO,0,none⟩) ts.length cO) (.int .i64 ((m:Nat):Int)) (.int .i64 0) rfl (Qam kj) (Qam kj) (Qam kj) ⟨_,rfl,xx3,us,vs,has,(by unfold addT; rw [if_pos (by omega)]; exact hcE),_,rfl,hfr⟩)
end Go.Proofs.YtcmaolmofgmkhaaDoor.Te
end
