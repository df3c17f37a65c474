/- Texts of this claim, joined (K3). -/
import Derived.Test.YtcmaolmofgmkhaaDoorZK2

set_option linter.unusedVariables false
set_option linter.unusedSimpArgs false
set_option maxHeartbeats 4000000
section
namespace Go.Proofs.YtcmaolmofgmkhaaDoor.Te
open Go Go.RowKit
open Rely Auto Own Seat Sha
def Qci (y n i:Int) (us:List NdV) (z:Nat):List NdV:=if (ndi us (upN y n z)).n.us=true then us.set (upN y n z) ⟨{ (ndi us (upN y n z)).n with ms:=insA (ndi us (upN y n z)).n.ms (posI (ndi us (upN y n z)).n.ms i) i },none,0⟩ else us
def insL (us : List NdV) (y n i:Int) (pre:List Nat):List NdV:=pre.foldl (Qci y n i) us
def insT (us : List NdV) (y n i:Int):List NdV:=insL us y n i ((List.range 6).filter fun k=>decide (0≤upn y n k))
def addT (us : List NdV) (m:Nat) (nd:NdV) (LV:Nat):List NdV:=insT ((if 2*m<us.length then us else us++List.replicate (us.length+1) zn).set (2*m) nd) (2*((m:Nat):Int)) ((LV:Nat):Int) ((m:Nat):Int)
theorem Qce (us : List NdV) (y n i:Int) (pre:List Nat) (z:Nat):insL us y n i (pre++[z])=Qci y n i (insL us y n i pre) z:=by unfold insL; rw [List.foldl_append]; rfl
theorem Qcz (y n i:Int) (us:List NdV) (z:Nat):(Qci y n i us z).length=us.length:=by
  unfold Qci
  split
  · rw [List.length_set]
  · rfl
theorem QeB {xs : List Int} (x:Int) (h:xs.Pairwise (·≤·)):(insA xs (posI xs x) x).Pairwise (·≤·):=by
  have key:∀ xs:List Int,xs.Pairwise (·≤·)→∀ a∈xs.take (posI xs x),a<x:=by
    intro xs
    induction xs with
    | nil=>intro _ a ha; cases ha
    | cons b r ih =>
      intro h a ha
      rw [List.pairwise_cons] at h
      by_cases hb:b<x
      · have e:posI (b::r) x=posI r x+1:=by unfold posI; rw [List.countP_cons_of_pos (by simpa using hb)]
        rw [e,List.take_succ_cons,List.mem_cons] at ha
        rcases ha with rfl | ha
        · exact hb
        · exact ih h.2 a ha
      · have e:posI (b::r) x=0:=by
          unfold posI
          rw [List.countP_eq_zero]
          intro c hc
          rcases List.mem_cons.1 hc with rfl | hc
          · simpa using hb
          · have:=h.1 c hc
            simp; omega
        rw [e] at ha; cases ha
  have key2:∀ xs:List Int,xs.Pairwise (·≤·)→∀ a∈xs.drop (posI xs x),x≤a:=by
    intro xs
    induction xs with
    | nil=>intro _ a ha; rw [List.drop_nil] at ha; cases ha
    | cons b r ih =>
      intro h a ha
      rw [List.pairwise_cons] at h
      by_cases hb:b<x
      · have e:posI (b::r) x=posI r x+1:=by unfold posI; rw [List.countP_cons_of_pos (by simpa using hb)]
        rw [e,List.drop_succ_cons] at ha
        exact ih h.2 a ha
      · have h2:a∈b::r:=List.mem_of_mem_drop ha
        rcases List.mem_cons.1 h2 with rfl | hc
        · omega
        · have:=h.1 a hc; omega
  unfold insA
  rw [List.append_assoc,List.pairwise_append]
  refine ⟨h.sublist (List.take_sublist _ _),List.pairwise_cons.2 ⟨fun a ha=>key2 xs h a ha,h.sublist (List.drop_sublist _ _)⟩,fun a ha b hb=>?_⟩
  have h1:=key xs h a ha
  rcases List.mem_cons.1 hb with rfl | hb
  · omega
  · have:=key2 xs h b hb; omega
def Rise (b : Nat) (us:List NdV):Prop:=∀ j,j<us.length→(ndi us j).n.ms.Pairwise (·≤·)∧(ndi us j).n.ms.length≤b
theorem QgR {y n i:Int} {us:List NdV} {z b:Nat} (h:Rise b us):Rise (b+1) (Qci y n i us z):=by
  intro j hj
  rw [Qcz] at hj
  unfold Qci
  split
  · by_cases e:upN y n z<us.length
    · rw [QaC _ e]
      by_cases e2:j=upN y n z
      · rw [if_pos e2]
        obtain ⟨h1,h2⟩:=h _ e
        exact ⟨QeB i h1,by show (insA _ _ _).length≤_; rw [QcI (Qds _ _)]; omega⟩
      · rw [if_neg e2]; have:=h j hj; exact ⟨this.1,by omega⟩
    · rw [List.set_eq_of_length_le (by omega)]; have:=h j hj; exact ⟨this.1,by omega⟩
  · have:=h j hj; exact ⟨this.1,by omega⟩
theorem Qby (y n i:Int):∀ (pre:List Nat) (us:List NdV),(insL us y n i pre).length=us.length
  | [],us=>rfl
  | z::r,us=>(Qby y n i r (Qci y n i us z)).trans (Qcz y n i us z)
theorem Qem {y n i:Int}:∀ (pre:List Nat) (us:List NdV) (b:Nat),Rise b us→Rise (b+pre.length) (insL us y n i pre)
  | [],us,b,h=>h
  | z::r,us,b,h=>by
    have:=Qem (y:=y) (n:=n) (i:=i) r (Qci y n i us z) (b+1) (QgR h)
    intro j hj
    have q:=this j hj
    exact ⟨q.1,qT q.2 (by rw [List.length_cons]; omega)⟩
theorem AsC.rise {vs us:List NdV} {b:Nat} (h:AsC vs us) (r:Rise b us):Rise b vs:=fun j hj=>by
  rw [h.1] at hj
  rw [h.2 j hj]
  exact r j hj
theorem AsC.step {vs us:List NdV} {y n i:Int} {z:Nat} {a:Option Addr} {c:Nat} (h:AsC vs us) (hu:upN y n z<us.length) (hus:(ndi vs (upN y n z)).n.us=true):AsC (vs.set (upN y n z) ⟨{ (ndi vs (upN y n z)).n with ms:=insA (ndi vs (upN y n z)).n.ms (posI (ndi vs (upN y n z)).n.ms i) i },a,c⟩) (Qci y n i us z):=by
  refine ⟨by rw [List.length_set,Qcz]; exact h.1,fun j hj=>?_⟩
  rw [Qcz] at hj
  have e:=h.2 _ hu
  rw [e] at hus
  unfold Qci
  rw [if_pos hus,QaC _ (by rw [h.1]; exact hu),QaC _ hu]
  by_cases e2:j=upN y n z
  · rw [if_pos e2,if_pos e2,e]
  · rw [if_neg e2,if_neg e2]; exact h.2 j hj
theorem AsC.stay {vs us:List NdV} {y n i:Int} {z:Nat} (h:AsC vs us) (hu:upN y n z<us.length) (hus:(ndi vs (upN y n z)).n.us=false):AsC vs (Qci y n i us z):=by
  have e:=h.2 _ hu
  rw [e] at hus
  unfold Qci
  rw [if_neg (by rw [hus]; decide)]
  exact h
theorem Qgw {b k:Nat} {us:List NdV} {n:NdV} (h:Rise b us) (h1:n.n.ms.Pairwise (·≤·)) (h2:n.n.ms.length≤b):Rise b (us.set k n):=by
  intro j hj
  rw [List.length_set] at hj
  by_cases e:k<us.length
  · rw [QaC n e]
    split
    · exact ⟨h1,h2⟩
    · exact h j hj
  · rw [List.set_eq_of_length_le (by omega)]; exact h j hj
theorem QiI {b k:Nat} {us:List NdV} (h:Rise b us):Rise b (us++List.replicate k zn):=by
  intro j hj
  rw [List.length_append,qZ] at hj
  rw [Qbq]
  split
  · next h1=>exact h j h1
  · rw [QbD zn (by omega)]; exact ⟨List.Pairwise.nil,Nat.zero_le _⟩
theorem QkH (ts : List NdV) (a_t:Option Addr) (c_t B1:Nat) (w:World) (ht:TrAt B1 w a_t ts) (htl:ts.length≤100000) (L:Nat) (hL:leaves ((ts.length:Nat):Int)=((L:Nat):Int)) (hL2:2*L≤ts.length+1) (v:Int) (h:((Qc9 ts L:Nat):Int)=v):Calls Tryd.prog 51 #[.slice a_t ts.length c_t] w (Ret w (.int .i64 v)):=h▸QlU ts a_t c_t B1 w ht htl L hL hL2
theorem QgP {L : Nat} (h:Qax ((L:Nat):Int)=true) (h1:L≠32):Qax ((2*L:Nat):Int)=true:=by
  have:=Qav h
  rcases (show L=1∨L=2∨L=4∨L=8∨L=16 by omega) with rfl | rfl | rfl | rfl | rfl <;> rfl
theorem Qio (nd : NdV) (hok:NdOk nd.n) (B1 B:Nat) (w:World) (hB:B≤w.heap.size) (hml:nd.n.ms.length≤1000000) (hr:RdK .i64 B1 nd.n.ms (.slice nd.a nd.n.ms.length nd.c) w):Calls Tryd.prog 45 #[.agg (cat [#[.bool nd.n.us],#[.int .i64 nd.n.nm],ints .u8 (nd.n.key),ints .u8 (nd.n.sg),ints .u8 (nd.n.pa),#[.slice nd.a nd.n.ms.length nd.c]])] w (QbH w (fun v W=>∃ u,v=.agg (cat [#[.bool nd.n.us],#[.int .i64 nd.n.nm],ints .u8 (nd.n.key),ints .u8 (nd.n.sg),ints .u8 (nd.n.pa),#[u]])∧OwnN .i64 3 B nd.n.ms u W)) :=
  (Qj7 nd hok B1 w hml hr).mono fun e W ⟨v,h1,h2,u,h3,h4⟩=>⟨v,h1,h2,u,h3,OwnN.base hB h4⟩
theorem OwH.hole {base g c i M:Nat} {ts:List NdV} {W W':World} (hM:ts.length=M) (t:OwT base ts (.slice (some ⟨g,0,none⟩) M c) W) (hi:i<M) (q:W.grownBy W' (ob (ndi ts i))):OwH base ts (.slice (some ⟨g,0,none⟩) M c) W' (some i):=by
  subst hM
  have hr:=(t.nd i hi (by simp)).2.2
  refine ⟨t.ok,⟨t.row.1,t.row.2.imp id fun ⟨g',c',cur,q1,q2,q3,q4⟩=>⟨g',c',cur,q1,q2,?_,q4⟩⟩,fun j hj hji=>(t.nd j hj (by simp)).keep fun k hk=>q.block k ((t.nd j hj (by simp)).lt hk) fun e=>t.ap j i hj hi (by simpa using hji) (by simp) (by simp) k hk e.symm,fun i j hi hj hij _ _=>t.ap i j hi hj hij (by simp) (by simp)⟩
  refine (q.block g' (QaB q3) fun e=>?_).trans q3
  obtain ⟨cur2,r2⟩:=QbP hr e.symm
  rw [q3] at r2
  simp at r2
theorem OwH.putsT {base g:Nat} {ts:List NdV} {v:Value} {W W':World} {h:Option Nat} {cs:Array Value} {T:TypeId} (t:OwH base ts v W h) (p:Puts W g W') (r:W.heap[g]? = some (.cells cs T)) (h1:41≠T) (h2:3≠T):OwH base ts v W' h:=t.keep (fun k hk=>p.2.2.2.2 k fun e=>by
  obtain ⟨-,cur,r2⟩:=t.rowBlock hk
  rw [e,r] at r2
  simp only [Option.some.injEq,Obj.cells.injEq] at r2
  exact h1 r2.2.1.symm) fun i hi hh k hk=>p.2.2.2.2 k fun e=>by
  obtain ⟨cur,r2⟩:=QbP (t.nd i hi hh).2.2 hk
  rw [e,r] at r2
  simp only [Option.some.injEq,Obj.cells.injEq] at r2
  exact h2 r2.2.1.symm
theorem QeE {base : Nat} {w W W':World} {xs:List Int} {v:Value} (e:Ext w W) (h:OwnN .i64 3 base xs v W) (hb:w.heap.size≤base) (q:W.grownBy W' v.ownBlock):Ext w W' :=
  ⟨q.os.trans e.os,q.tape.trans e.tape,q.output.trans e.output,qT e.size q.size,fun k hk=>(q.block k (qL hk e.size) fun h1=>by have:=h.ge h1.symm; omega).trans (e.block k hk)⟩
theorem Qd5 {base : Nat} {W W':World} {xs:List Int} {v:Value} (h:OwnN .i64 3 base xs v W) (q:W.grownBy W' v.ownBlock):KeepsOthers W W' :=
  ⟨q.size,fun k o hk ho=>(q.block k (Array.getElem?_eq_some_iff.1 hk).1 fun e=>by
    obtain ⟨cur,r⟩:=QbP h e.symm
    rw [r] at hk
    cases hk
    cases ho).trans hk⟩
section
variable {ds : List Deferred} {P : Program} {ops : Array Oper} {Q : Exit → Act → World → Prop} {rest : List Oper} {o : Oper} {N : Nat} {L : Env} {W : World} {Fe : Fence} {nf : Nat} {fuel k : Nat} {listed : Array Bool} {Rd : World → Prop}
theorem Qhx (s x:Operand) (t tn:TypeId) (ho:o.op=.call { callee:=.builtin .append,args:=#[s,x],argTypes:=#[t,tn] }) {M k g base:Nat} {us:List NdV} (hM:us.length=M) (h:OwT base us (.slice (some ⟨g,0,none⟩) M M) W) (hs:Rely.look (envN N L) s=.slice (some ⟨g,0,none⟩) M M) (hx:Rely.look (envN N L) x=.int .i64 (k:Int))
    (ht:P.underlying t=some (.slice 41)) (htn:P.underlying tn=some (.int .i64)) (hi:(P.info? 41).map (fun i=>(i.zero,i.size,i.bytes))=some (some (.agg (cat (ndP zn))),99,136)) (h0:0<k) (hM0:0<M) (hb:M+k≤1000000) (hbase:base≤W.heap.size) (d:Nat) (hd:o.dst=some d) (hw:Qbe ops o N L=some true)
    (kk:∀ g' c' W',Ext W W'→W.heap.size≤g'→OwT base (us++List.replicate k zn) (.slice (some ⟨g',0,none⟩) (M+k) c') W'→WL P ops Q rest (Qar ds N ((d,.slice (some ⟨g',0,none⟩) (M+k) c')::L)) W'):WL P ops Q (o::rest) (Qar ds N L) W:=by
  obtain ⟨g',c',W',h1,h2,h3,h4⟩:=Qhz (base':=0) s x t tn ho hM h hs hx ht htn hi h0 hM0 hb hbase
  exact Qcq _ _ d hd hw h1 (kk g' c' W' h2 h3 h4)
theorem Qgj (hF : Free Fe nf P) (ho':ops[k]? = some o) (hnd:QaX o=true) (ty:TypeId) (x y:Operand) {base g c i M:Nat} {ts:List NdV} {ms:List Int} {a':Option Addr} {c':Nat} (hM:ts.length=M) (t:OwH base ts (.slice (some ⟨g,0,none⟩) M c) W (some i)) (hi:i<M)
    (hn:NdIn base W ⟨{ (ndi ts i).n with ms:=ms },a',c'⟩) (ha:∀ j,j<M→j≠i→∀ g,ob ⟨{ (ndi ts i).n with ms:=ms },a',c'⟩=some g→ob (ndi ts j)≠some g)
    (ho:o.op=.store ty x y) (hx:Rely.look (envN N L) x=.pointer (some ⟨g,0+i*99+98,none⟩)) (hy:Rely.look (envN N L) y=.slice a' ms.length c') (hi1:(P.info? ty).map (·.size)=some 1) (hd:o.dst=none) (hg:Qbe ops o N L=some true) (hR:∀ W',Puts W g W'→Rd W')
    (kk:∀ W',Puts W g W'→OwT base (ts.set i ⟨{ (ndi ts i).n with ms:=ms },a',c'⟩) (.slice (some ⟨g,0,none⟩) M c) W'→Wk.WBI Fe nf P ops Q Rd fuel (listed.setIfInBounds k true) (Qar ds N L) W'):Wk.WOI Fe nf P ops Q Rd k fuel listed (Qar ds N L) W:=by
  obtain ⟨g',c2,cur,e,q2,q3,q4,q5,q6,q7⟩:=t.opens (by omega)
  simp only [Value.slice.injEq,Option.some.injEq,Addr.mk.injEq] at e
  obtain ⟨⟨rfl,-⟩,-,rfl⟩:=e
  rw [Nat.zero_add] at hx
  have hrun:=Qa4 (ρ:=Rely.look (envN N L)) (o:=o) ty x y g (i*99+98) _ cur (.slice a' ms.length c') q3 ho hx hy hi1 (by simp only [Nat.blt_eq]; omega) rfl rfl
  have p:=QcN W g (cur.setIfInBounds (i*99+98) (.slice a' ms.length c'))
  exact Wk.wio_void hF ho' hnd _ hd hg hrun (hR _ p) (kk _ p (t.setF hM hi q3 p (setRow_heap _ _ _ _ _ _ q3) hn ha))
end
set_option maxRecDepth 100000 in
theorem Qmd (ts : List NdV) (a_t:Option Addr) (c_t B1:Nat) (w:World) (ht:TrAt B1 w a_t ts) (htl:ts.length≤100000) (hmt:∀ i,i<ts.length→(ndi ts i).n.ms.length≤1000) (hT:TabAt w) (nd:NdV) (hok:NdOk nd.n) (hc:chkT ts=false):Calls Tryd.prog 25 #[.slice a_t ts.length c_t,.agg (cat [#[.bool nd.n.us],#[.int .i64 nd.n.nm],ints .u8 (nd.n.key),ints .u8 (nd.n.sg),ints .u8 (nd.n.pa),#[.slice nd.a nd.n.ms.length nd.c]])] w (Ret w (.tuple #[.slice none 0 0,.int .i64 0,.iface 30 (.int .i64 3)])):=by
  refine enter 73 [(0,.slice a_t ts.length c_t),(1,.agg (cat [#[.bool nd.n.us],#[.int .i64 nd.n.nm],ints .u8 (nd.n.key),ints .u8 (nd.n.sg),ints .u8 (nd.n.pa),#[.slice nd.a nd.n.ms.length nd.c]]))] Tryd.func25 rfl rfl kj rfl ?_
  refine wp_seq_k fun K1 hK1=>?_
  refine Qab ?_
  refine Qap (cat [#[.bool nd.n.us],#[.int .i64 nd.n.nm],ints .u8 (nd.n.key),ints .u8 (nd.n.sg),ints .u8 (nd.n.pa),#[.slice nd.a nd.n.ms.length nd.c]]) 41 3 rfl kj kj fun g2 W1 l2 e1 r2_1=>?_
  have x1:Ext w W1:=Ext.tr (Rely.Ext.refl w) e1
  have b2:w.heap.size≤g2:=qT (Rely.Ext.refl w).size l2
  refine Qaa (.slice none 0 0) 4 rfl kj kj ?_
  refine Qaa (.int .i64 0) 5 rfl kj kj ?_
  refine Qaa (.nilIface) 6 rfl kj kj ?_
  refine Qae ?_
  refine hK1 _ _ ?_
  refine wp_seq_k fun K3 hK3=>?_
  refine wp_seq_k fun K4 hK4=>?_
  refine Qab ?_
  refine Qaa (.slice a_t ts.length c_t) 10 rfl kj kj ?_
  refine Qal (.iface 30 (.int .i64 3)) 11 #[.slice a_t ts.length c_t] 11 rfl kj kj (Qiq ts a_t c_t _ _ (TrAt.ext ht x1) htl (fun i hi=>qT (hmt i hi) (by decide)) (TabAt.ext hT x1) hc) fun W2 e2=>?_
  have x2:Ext w W2:=Ext.tr x1 e2
  refine Qaa (.bool true) 12 rfl kj kj ?_
  refine Qaa (.bool true) 13 rfl kj kj ?_
  refine Qad 14 rfl kj ?_
  refine Qad 15 rfl kj ?_
  refine Qad 16 rfl kj ?_
  refine Qaa (.bool true) 17 rfl kj kj ?_
  refine Qae ?_
  refine hK4 _ _ ?_
  refine cond_true kj ?_
  refine wp_seq_k fun K5 hK5=>?_
  refine Qab ?_
  refine Qaa (.iface 30 (.int .i64 3)) 18 rfl kj kj ?_
  refine Qaa (.slice none 0 0) 4 rfl kj kj ?_
  refine Qaa (.int .i64 0) 5 rfl kj kj ?_
  refine Qaa (.iface 30 (.int .i64 3)) 6 rfl kj kj ?_
  refine Qae ?_
  refine hK5 _ _ ?_
  refine wp_ret ?_
  repeat (first | with_reducible refine goR1 ?_ | with_reducible refine goR2 ?_)
  exact (show bodyPost _ _ _ .ret _ _ from ret3 (.slice none 0 0) (.int .i64 0) (.iface 30 (.int .i64 3)) rfl (Qam kj) (Qam kj) (Qam kj) ⟨rfl,x2⟩)
set_option maxRecDepth 100000 in
theorem Qmb (ts : List NdV) (a_t:Option Addr) (c_t B1:Nat) (w:World) (ht:TrAt B1 w a_t ts) (htl:ts.length≤100000) (hmt:∀ i,i<ts.length→(ndi ts i).n.ms.length≤1000) (hT:TabAt w) (nd:NdV) (hok:NdOk nd.n) (hc:chkT ts=true) (hs:QaO nd.n=false):Calls Tryd.prog 25 #[.slice a_t ts.length c_t,.agg (cat [#[.bool nd.n.us],#[.int .i64 nd.n.nm],ints .u8 (nd.n.key),ints .u8 (nd.n.sg),ints .u8 (nd.n.pa),#[.slice nd.a nd.n.ms.length nd.c]])] w (Ret w (.tuple #[.slice none 0 0,.int .i64 0,.iface 30 (.int .i64 3)])):=by
  refine enter 73 [(0,.slice a_t ts.length c_t),(1,.agg (cat [#[.bool nd.n.us],#[.int .i64 nd.n.nm],ints .u8 (nd.n.key),ints .u8 (nd.n.sg),ints .u8 (nd.n.pa),#[.slice nd.a nd.n.ms.length nd.c]]))] Tryd.func25 rfl rfl kj rfl ?_
  refine wp_seq_k fun K1 hK1=>?_
  refine Qab ?_
  refine Qap (cat [#[.bool nd.n.us],#[.int .i64 nd.n.nm],ints .u8 (nd.n.key),ints .u8 (nd.n.sg),ints .u8 (nd.n.pa),#[.slice nd.a nd.n.ms.length nd.c]]) 41 3 rfl kj kj fun g2 W1 l2 e1 r2_1=>?_
  have x1:Ext w W1:=Ext.tr (Rely.Ext.refl w) e1
  have b2:w.heap.size≤g2:=qT (Rely.Ext.refl w).size l2
  refine Qaa (.slice none 0 0) 4 rfl kj kj ?_
  refine Qaa (.int .i64 0) 5 rfl kj kj ?_
  refine Qaa (.nilIface) 6 rfl kj kj ?_
  refine Qae ?_
  refine hK1 _ _ ?_
  refine wp_seq_k fun K3 hK3=>?_
  refine wp_seq_k fun K4 hK4=>?_
  refine Qab ?_
  refine Qaa (.slice a_t ts.length c_t) 10 rfl kj kj ?_
  refine Qal (.nilIface) 11 #[.slice a_t ts.length c_t] 11 rfl kj kj (Qca ts a_t c_t _ _ (TrAt.ext ht x1) htl (fun i hi=>qT (hmt i hi) (by decide)) (TabAt.ext hT x1) hc) fun W2 e2=>?_
  have x2:Ext w W2:=Ext.tr x1 e2
  refine Qaa (.bool false) 12 rfl kj kj ?_
  refine Qaa (.bool false) 13 rfl kj kj ?_
  have r2_2:=(Qah r2_1 e2)
  refine Qaa (.agg (cat [#[.bool nd.n.us],#[.int .i64 nd.n.nm],ints .u8 (nd.n.key),ints .u8 (nd.n.sg),ints .u8 (nd.n.pa),#[.slice nd.a nd.n.ms.length nd.c]])) 14 rfl kj (Qa9 41 _ g2 41 _ _ r2_2 rfl kj kj (isz (n:=99) kj (by rw [Qac,Qac,Qac,Qac,Qac,Qac]; simp only [qS,cat,((Qaf _ _).trans hok.gl),((Qaf _ _).trans hok.kl),((Qaf _ _).trans hok.pl)]; rfl))) ?_
  refine Qal (.bool false) 50 #[.agg (cat [#[.bool nd.n.us],#[.int .i64 nd.n.nm],ints .u8 (nd.n.key),ints .u8 (nd.n.sg),ints .u8 (nd.n.pa),#[.slice nd.a nd.n.ms.length nd.c]])] 15 rfl kj kj ((hs▸Qe1 nd hok _)) fun W3 e3=>?_
  have x3:Ext w W3:=Ext.tr x2 e3
  refine Qaa (.bool true) 16 rfl kj kj ?_
  refine Qaa (.bool true) 17 rfl kj kj ?_
  refine Qae ?_
  refine hK4 _ _ ?_
  refine cond_true kj ?_
  refine wp_seq_k fun K5 hK5=>?_
  refine Qab ?_
  refine Qaa (.iface 30 (.int .i64 3)) 18 rfl kj kj ?_
  refine Qaa (.slice none 0 0) 4 rfl kj kj ?_
  refine Qaa (.int .i64 0) 5 rfl kj kj ?_
  refine Qaa (.iface 30 (.int .i64 3)) 6 rfl kj kj ?_
  refine Qae ?_
  refine hK5 _ _ ?_
  refine wp_ret ?_
  repeat (first | with_reducible refine goR1 ?_ | with_reducible refine goR2 ?_)
  exact (show bodyPost _ _ _ .ret _ _ from ret3 (.slice none 0 0) (.int .i64 0) (.iface 30 (.int .i64 3)) rfl (Qam kj) (Qam kj) (Qam kj) ⟨rfl,x3⟩)
set_option maxRecDepth 100000 in
theorem Qmc (ts : List NdV) (a_t:Option Addr) (c_t B1:Nat) (w:World) (ht:TrAt B1 w a_t ts) (htl:ts.length≤100000) (hmt:∀ i,i<ts.length→(ndi ts i).n.ms.length≤1000) (hT:TabAt w) (nd:NdV) (hok:NdOk nd.n) (hc:chkT ts=true) (hs:QaO nd.n=true) (L:Nat) (hL:leaves ((ts.length:Nat):Int)=((L:Nat):Int)) (hL3:L≤32) (hlen:ts.length+1=2*L) (hf:0≤QaG ts nd.n.nm):Calls Tryd.prog 25 #[.slice a_t ts.length c_t,.agg (cat [#[.bool nd.n.us],#[.int .i64 nd.n.nm],ints .u8 (nd.n.key),ints .u8 (nd.n.sg),ints .u8 (nd.n.pa),#[.slice nd.a nd.n.ms.length nd.c]])] w (Ret w (.tuple #[.slice none 0 0,.int .i64 0,.iface 30 (.int .i64 9)])):=by
  refine enter 73 [(0,.slice a_t ts.length c_t),(1,.agg (cat [#[.bool nd.n.us],#[.int .i64 nd.n.nm],ints .u8 (nd.n.key),ints .u8 (nd.n.sg),ints .u8 (nd.n.pa),#[.slice nd.a nd.n.ms.length nd.c]]))] Tryd.func25 rfl rfl kj rfl ?_
  refine wp_seq_k fun K1 hK1=>?_
  refine Qab ?_
  refine Qap (cat [#[.bool nd.n.us],#[.int .i64 nd.n.nm],ints .u8 (nd.n.key),ints .u8 (nd.n.sg),ints .u8 (nd.n.pa),#[.slice nd.a nd.n.ms.length nd.c]]) 41 3 rfl kj kj fun g2 W1 l2 e1 r2_1=>?_
  have x1:Ext w W1:=Ext.tr (Rely.Ext.refl w) e1
  have b2:w.heap.size≤g2:=qT (Rely.Ext.refl w).size l2
  refine Qaa (.slice none 0 0) 4 rfl kj kj ?_
  refine Qaa (.int .i64 0) 5 rfl kj kj ?_
  refine Qaa (.nilIface) 6 rfl kj kj ?_
  refine Qae ?_
  refine hK1 _ _ ?_
  refine wp_seq_k fun K3 hK3=>?_
  refine wp_seq_k fun K4 hK4=>?_
  refine Qab ?_
  refine Qaa (.slice a_t ts.length c_t) 10 rfl kj kj ?_
  refine Qal (.nilIface) 11 #[.slice a_t ts.length c_t] 11 rfl kj kj (Qca ts a_t c_t _ _ (TrAt.ext ht x1) htl (fun i hi=>qT (hmt i hi) (by decide)) (TabAt.ext hT x1) hc) fun W2 e2=>?_
  have x2:Ext w W2:=Ext.tr x1 e2
  refine Qaa (.bool false) 12 rfl kj kj ?_
  refine Qaa (.bool false) 13 rfl kj kj ?_
  have r2_2:=(Qah r2_1 e2)
  refine Qaa (.agg (cat [#[.bool nd.n.us],#[.int .i64 nd.n.nm],ints .u8 (nd.n.key),ints .u8 (nd.n.sg),ints .u8 (nd.n.pa),#[.slice nd.a nd.n.ms.length nd.c]])) 14 rfl kj (Qa9 41 _ g2 41 _ _ r2_2 rfl kj kj (isz (n:=99) kj (by rw [Qac,Qac,Qac,Qac,Qac,Qac]; simp only [qS,cat,((Qaf _ _).trans hok.gl),((Qaf _ _).trans hok.kl),((Qaf _ _).trans hok.pl)]; rfl))) ?_
  refine Qal (.bool true) 50 #[.agg (cat [#[.bool nd.n.us],#[.int .i64 nd.n.nm],ints .u8 (nd.n.key),ints .u8 (nd.n.sg),ints .u8 (nd.n.pa),#[.slice nd.a nd.n.ms.length nd.c]])] 15 rfl kj kj ((hs▸Qe1 nd hok _)) fun W3 e3=>?_
  have x3:Ext w W3:=Ext.tr x2 e3
  refine Qaa (.bool false) 16 rfl kj kj ?_
  refine Qaa (.bool false) 17 rfl kj kj ?_
  refine Qae ?_
  refine hK4 _ _ ?_
  refine cond_false kj ?_
  refine wp_skip ?_
  refine hK3 _ _ ?_
  refine wp_seq_k fun K5 hK5=>?_
  refine wp_seq_k fun K6 hK6=>?_
  refine Qab ?_
  refine Qaa (.slice a_t ts.length c_t) 19 rfl kj kj ?_
  refine Qaa (.pointer (some ⟨g2,1,none⟩)) 20 rfl kj kj ?_
  have r2_3:=(Qah r2_2 e3)
  refine Qaa (.int .i64 nd.n.nm) 21 rfl kj (Qag 3 _ g2 1 41 _ (.int .i64 nd.n.nm) _ r2_3 rfl kj (Qak [#[.bool nd.n.us]] [#[.int .i64 nd.n.nm]] [ints .u8 (nd.n.key),ints .u8 (nd.n.sg),ints .u8 (nd.n.pa),#[.slice nd.a nd.n.ms.length nd.c]] 1 kj 0 _ rfl) kj) ?_
  refine Qal (.int .i64 (QaG ts nd.n.nm)) 46 #[.slice a_t ts.length c_t,.int .i64 nd.n.nm] 22 rfl kj kj (Qij ts a_t c_t _ _ (TrAt.ext ht x3) htl L hL (by omega) hL3 hlen nd.n.nm) fun W4 e4=>?_
  have x4:Ext w W4:=Ext.tr x3 e4
  refine Qaa (.bool true) 23 rfl kj (Qai (u:=.bool (decide ((QaG ts nd.n.nm)≥0))) kj (congrArg Value.bool (decide_eq_true (by omega)))) ?_
  refine Qae ?_
  refine hK6 _ _ ?_
  refine cond_true kj ?_
  refine wp_seq_k fun K7 hK7=>?_
  refine Qab ?_
  refine Qaa (.iface 30 (.int .i64 9)) 24 rfl kj kj ?_
  refine Qaa (.slice none 0 0) 4 rfl kj kj ?_
  refine Qaa (.int .i64 0) 5 rfl kj kj ?_
  refine Qaa (.iface 30 (.int .i64 9)) 6 rfl kj kj ?_
  refine Qae ?_
  refine hK7 _ _ ?_
  refine wp_ret ?_
  repeat (first | with_reducible refine goR1 ?_ | with_reducible refine goR2 ?_)
  exact (show bodyPost _ _ _ .ret _ _ from ret3 (.slice none 0 0) (.int .i64 0) (.iface 30 (.int .i64 9)) rfl (Qam kj) (Qam kj) (Qam kj) ⟨rfl,x4⟩)
set_option maxRecDepth 100000 in
theorem Qma (ts : List NdV) (a_t:Option Addr) (c_t B1:Nat) (w:World) (ht:TrAt B1 w a_t ts) (htl:ts.length≤100000) (hmt:∀ i,i<ts.length→(ndi ts i).n.ms.length≤1000) (hT:TabAt w) (nd:NdV) (hok:NdOk nd.n) (hc:chkT ts=true) (hs:QaO nd.n=true) (L:Nat) (hL:leaves ((ts.length:Nat):Int)=((L:Nat):Int)) (hL3:L≤32) (hlen:ts.length+1=2*L) (hf:QaG ts nd.n.nm<0) (hm:Qc9 ts L=32):Calls Tryd.prog 25 #[.slice a_t ts.length c_t,.agg (cat [#[.bool nd.n.us],#[.int .i64 nd.n.nm],ints .u8 (nd.n.key),ints .u8 (nd.n.sg),ints .u8 (nd.n.pa),#[.slice nd.a nd.n.ms.length nd.c]])] w (Ret w (.tuple #[.slice none 0 0,.int .i64 0,.iface 30 (.int .i64 5)])):=by
  refine enter 73 [(0,.slice a_t ts.length c_t),(1,.agg (cat [#[.bool nd.n.us],#[.int .i64 nd.n.nm],ints .u8 (nd.n.key),ints .u8 (nd.n.sg),ints .u8 (nd.n.pa),#[.slice nd.a nd.n.ms.length nd.c]]))] Tryd.func25 rfl rfl kj rfl ?_
  refine wp_seq_k fun K1 hK1=>?_
  refine Qab ?_
  refine Qap (cat [#[.bool nd.n.us],#[.int .i64 nd.n.nm],ints .u8 (nd.n.key),ints .u8 (nd.n.sg),ints .u8 (nd.n.pa),#[.slice nd.a nd.n.ms.length nd.c]]) 41 3 rfl kj kj fun g2 W1 l2 e1 r2_1=>?_
  have x1:Ext w W1:=Ext.tr (Rely.Ext.refl w) e1
  have b2:w.heap.size≤g2:=qT (Rely.Ext.refl w).size l2
  refine Qaa (.slice none 0 0) 4 rfl kj kj ?_
  refine Qaa (.int .i64 0) 5 rfl kj kj ?_
  refine Qaa (.nilIface) 6 rfl kj kj ?_
  refine Qae ?_
  refine hK1 _ _ ?_
  refine wp_seq_k fun K3 hK3=>?_
  refine wp_seq_k fun K4 hK4=>?_
  refine Qab ?_
  refine Qaa (.slice a_t ts.length c_t) 10 rfl kj kj ?_
  refine Qal (.nilIface) 11 #[.slice a_t ts.length c_t] 11 rfl kj kj (Qca ts a_t c_t _ _ (TrAt.ext ht x1) htl (fun i hi=>qT (hmt i hi) (by decide)) (TabAt.ext hT x1) hc) fun W2 e2=>?_
  have x2:Ext w W2:=Ext.tr x1 e2
  refine Qaa (.bool false) 12 rfl kj kj ?_
  refine Qaa (.bool false) 13 rfl kj kj ?_
  have r2_2:=(Qah r2_1 e2)
  refine Qaa (.agg (cat [#[.bool nd.n.us],#[.int .i64 nd.n.nm],ints .u8 (nd.n.key),ints .u8 (nd.n.sg),ints .u8 (nd.n.pa),#[.slice nd.a nd.n.ms.length nd.c]])) 14 rfl kj (Qa9 41 _ g2 41 _ _ r2_2 rfl kj kj (isz (n:=99) kj (by rw [Qac,Qac,Qac,Qac,Qac,Qac]; simp only [qS,cat,((Qaf _ _).trans hok.gl),((Qaf _ _).trans hok.kl),((Qaf _ _).trans hok.pl)]; rfl))) ?_
  refine Qal (.bool true) 50 #[.agg (cat [#[.bool nd.n.us],#[.int .i64 nd.n.nm],ints .u8 (nd.n.key),ints .u8 (nd.n.sg),ints .u8 (nd.n.pa),#[.slice nd.a nd.n.ms.length nd.c]])] 15 rfl kj kj ((hs▸Qe1 nd hok _)) fun W3 e3=>?_
  have x3:Ext w W3:=Ext.tr x2 e3
  refine Qaa (.bool false) 16 rfl kj kj ?_
  refine Qaa (.bool false) 17 rfl kj kj ?_
  refine Qae ?_
  refine hK4 _ _ ?_
  refine cond_false kj ?_
  refine wp_skip ?_
  refine hK3 _ _ ?_
  refine wp_seq_k fun K5 hK5=>?_
  refine wp_seq_k fun K6 hK6=>?_
  refine Qab ?_
  refine Qaa (.slice a_t ts.length c_t) 19 rfl kj kj ?_
  refine Qaa (.pointer (some ⟨g2,1,none⟩)) 20 rfl kj kj ?_
  have r2_3:=(Qah r2_2 e3)
  refine Qaa (.int .i64 nd.n.nm) 21 rfl kj (Qag 3 _ g2 1 41 _ (.int .i64 nd.n.nm) _ r2_3 rfl kj (Qak [#[.bool nd.n.us]] [#[.int .i64 nd.n.nm]] [ints .u8 (nd.n.key),ints .u8 (nd.n.sg),ints .u8 (nd.n.pa),#[.slice nd.a nd.n.ms.length nd.c]] 1 kj 0 _ rfl) kj) ?_
  refine Qal (.int .i64 (QaG ts nd.n.nm)) 46 #[.slice a_t ts.length c_t,.int .i64 nd.n.nm] 22 rfl kj kj (Qij ts a_t c_t _ _ (TrAt.ext ht x3) htl L hL (by omega) hL3 hlen nd.n.nm) fun W4 e4=>?_
  have x4:Ext w W4:=Ext.tr x3 e4
  refine Qaa (.bool false) 23 rfl kj (Qai (u:=.bool (decide ((QaG ts nd.n.nm)≥0))) kj (congrArg Value.bool (decide_eq_false (by omega)))) ?_
  refine Qae ?_
  refine hK6 _ _ ?_
  refine cond_false kj ?_
  refine wp_skip ?_
  refine hK5 _ _ ?_
  refine wp_seq_k fun K7 hK7=>?_
  refine Qab ?_
  refine Qaa (.slice a_t ts.length c_t) 25 rfl kj kj ?_
  refine Qal (.int .i64 32) 51 #[.slice a_t ts.length c_t] 26 rfl kj kj (QkH ts a_t c_t _ _ (TrAt.ext ht x4) htl L hL (by omega) _ (by omega)) fun W5 e5=>?_
  have x5:Ext w W5:=Ext.tr x4 e5
  refine Qap (#[.int .i64 0]) 3 7 rfl kj kj fun g8 W6 l8 e6 r8_6=>?_
  have x6:Ext w W6:=Ext.tr x5 e6
  have b8:w.heap.size≤g8:=qT x5.size l8
  refine Qa5 g8 _ (#[.int .i64 32]) 3 r8_6 rfl kj (Qa4 3 _ _ g8 0 3 _ (.int .i64 32) r8_6 rfl kj kj kj kj kj rfl) fun W7 p7 r8_7=>?_
  have x7:Ext w W7:=Puts.ext p7 x6 b8
  refine Qae ?_
  refine hK7 _ _ ?_
  refine wp_seq_k fun K9 hK9=>?_
  refine wp_seq_k fun K10 hK10=>?_
  refine Qab ?_
  refine Qaa (.int .i64 32) 27 rfl kj (Qag 3 _ g8 0 3 _ (.int .i64 32) _ r8_7 rfl kj kj kj) ?_
  refine Qaa (.bool true) 28 rfl kj kj ?_
  refine Qae ?_
  refine hK10 _ _ ?_
  refine cond_true kj ?_
  refine wp_seq_k fun K11 hK11=>?_
  refine Qab ?_
  refine Qaa (.iface 30 (.int .i64 5)) 29 rfl kj kj ?_
  refine Qaa (.slice none 0 0) 4 rfl kj kj ?_
  refine Qaa (.int .i64 0) 5 rfl kj kj ?_
  refine Qaa (.iface 30 (.int .i64 5)) 6 rfl kj kj ?_
  refine Qae ?_
  refine hK11 _ _ ?_
  refine wp_ret ?_
  repeat (first | with_reducible refine goR1 ?_ | with_reducible refine goR2 ?_)
  exact (show bodyPost _ _ _ .ret _ _ from ret3 (.slice none 0 0) (.int .i64 0) (.iface 30 (.int .i64 5)) rfl (Qam kj) (Qam kj) (Qam kj) ⟨rfl,x7⟩)
set_option maxRecDepth 100000 in
theorem QlG (ts : List NdV) (a_t:Option Addr) (c_t B1:Nat) (w:World) (ht:TrAt B1 w a_t ts) (htl:ts.length≤100000) (hmt:∀ i,i<ts.length→(ndi ts i).n.ms.length≤1000) (hT:TabAt w) (nd:NdV) (hok:NdOk nd.n) (hc:chkT ts=true) (hs:QaO nd.n=true) (L:Nat) (hL:leaves ((ts.length:Nat):Int)=((L:Nat):Int)) (hL3:L≤32) (hlen:ts.length+1=2*L) (hTr:Qax ((L:Nat):Int)=true) (hf:QaG ts nd.n.nm<0) (m:Nat) (hm:Qc9 ts L=m) (hmL:m<L) (hnm:nd.n.ms.length≤900) (hnd9:nd.n.ms.Pairwise (·≤·)) (hrt:Rise 900 ts) (B2:Nat) (hr:RdK .i64 B2 nd.n.ms (.slice nd.a nd.n.ms.length nd.c) w):Calls Tryd.prog 25 #[.slice a_t ts.length c_t,.agg (cat [#[.bool nd.n.us],#[.int .i64 nd.n.nm],ints .u8 (nd.n.key),ints .u8 (nd.n.sg),ints .u8 (nd.n.pa),#[.slice nd.a nd.n.ms.length nd.c]])] w (QbH w (fun v W=>∃ us rs n5,AsC us ts∧n5.n=nd.n∧AsC rs (addT us m n5 L)∧∃ a c,v=.tuple #[.slice a rs.length c,.int .i64 ((m:Nat):Int),.nilIface]∧OwT w.heap.size rs (.slice a rs.length c) W)):=by
 have hTV:Qax ((L:Nat):Int)=true:=hTr
 have hLV:leaves (((ts.length:Nat)):Int)=((L:Nat):Int):=Qbh (by omega) hTV
 have hYi:i64 (2*((m:Nat):Int)):=⟨by omega,by omega⟩
 refine Qdf 73 [(0,.slice a_t ts.length c_t),(1,.agg (cat [#[.bool nd.n.us],#[.int .i64 nd.n.nm],ints .u8 (nd.n.key),ints .u8 (nd.n.sg),ints .u8 (nd.n.pa),#[.slice nd.a nd.n.ms.length nd.c]]))] Tryd.func25 rfl rfl kj rfl ?_
 refine wp_seq_k fun K1 hK1=>?_
 refine Qab ?_
 refine Qap (cat [#[.bool nd.n.us],#[.int .i64 nd.n.nm],ints .u8 (nd.n.key),ints .u8 (nd.n.sg),ints .u8 (nd.n.pa),#[.slice nd.a nd.n.ms.length nd.c]]) 41 3 rfl kj kj fun g2 W1 l2 e1 r2_1=>?_
 have x1:Ext w W1:=Ext.tr (Rely.Ext.refl w) e1
 have b2:w.heap.size≤g2:=qT (Rely.Ext.refl w).size l2
 refine Qaa (.slice none 0 0) 4 rfl kj kj ?_
 refine Qaa (.int .i64 0) 5 rfl kj kj ?_
 refine Qaa (.nilIface) 6 rfl kj kj ?_
 refine Qae ?_
 refine hK1 _ _ ?_
 refine wp_seq_k fun K3 hK3=>?_
 refine wp_seq_k fun K4 hK4=>?_
 refine Qab ?_
 refine Qaa (.slice a_t ts.length c_t) 10 rfl kj kj ?_
 refine Qal (.nilIface) 11 #[.slice a_t ts.length c_t] 11 rfl kj kj (Qca ts a_t c_t _ _ (TrAt.ext ht x1) htl (fun i hi=>qT (hmt i hi) (by decide)) (TabAt.ext hT x1) hc) fun W2 e2=>?_
 have x2:Ext w W2:=Ext.tr x1 e2
 refine Qaa (.bool false) 12 rfl kj kj ?_
 refine Qaa (.bool false) 13 rfl kj kj ?_
 have r2_2:=(Qah r2_1 e2)
 refine Qaa (.agg (cat [#[.bool nd.n.us],#[.int .i64 nd.n.nm],ints .u8 (nd.n.key),ints .u8 (nd.n.sg),ints .u8 (nd.n.pa),#[.slice nd.a nd.n.ms.length nd.c]])) 14 rfl kj (Qa9 41 _ g2 41 _ _ r2_2 rfl kj kj (isz (n:=99) kj (by rw [Qac,Qac,Qac,Qac,Qac,Qac]; simp only [qS,cat,((Qaf _ _).trans hok.gl),((Qaf _ _).trans hok.kl),((Qaf _ _).trans hok.pl)]; rfl))) ?_
 refine Qal (.bool true) 50 #[.agg (cat [#[.bool nd.n.us],#[.int .i64 nd.n.nm],ints .u8 (nd.n.key),ints .u8 (nd.n.sg),ints .u8 (nd.n.pa),#[.slice nd.a nd.n.ms.length nd.c]])] 15 rfl kj kj ((hs▸Qe1 nd hok _)) fun W3 e3=>?_
 have x3:Ext w W3:=Ext.tr x2 e3
 refine Qaa (.bool false) 16 rfl kj kj ?_
 refine Qaa (.bool false) 17 rfl kj kj ?_
 refine Qae ?_
 refine hK4 _ _ ?_
 refine cond_false kj ?_
 refine wp_skip ?_
 refine hK3 _ _ ?_
 refine wp_seq_k fun K5 hK5=>?_
 refine wp_seq_k fun K6 hK6=>?_
 refine Qab ?_
 refine Qaa (.slice a_t ts.length c_t) 19 rfl kj kj ?_
 refine Qaa (.pointer (some ⟨g2,1,none⟩)) 20 rfl kj kj ?_
 have r2_3:=(Qah r2_2 e3)
 refine Qaa (.int .i64 nd.n.nm) 21 rfl kj (Qag 3 _ g2 1 41 _ (.int .i64 nd.n.nm) _ r2_3 rfl kj (Qak [#[.bool nd.n.us]] [#[.int .i64 nd.n.nm]] [ints .u8 (nd.n.key),ints .u8 (nd.n.sg),ints .u8 (nd.n.pa),#[.slice nd.a nd.n.ms.length nd.c]] 1 kj 0 _ rfl) kj) ?_
 refine Qal (.int .i64 (QaG ts nd.n.nm)) 46 #[.slice a_t ts.length c_t,.int .i64 nd.n.nm] 22 rfl kj kj (Qij ts a_t c_t _ _ (TrAt.ext ht x3) htl L hL (by omega) hL3 hlen nd.n.nm) fun W4 e4=>?_
 have x4:Ext w W4:=Ext.tr x3 e4
 refine Qaa (.bool false) 23 rfl kj (Qai (u:=.bool (decide ((QaG ts nd.n.nm)≥0))) kj (congrArg Value.bool (decide_eq_false (by omega)))) ?_
 refine Qae ?_
 refine hK6 _ _ ?_
 refine cond_false kj ?_
 refine wp_skip ?_
 refine hK5 _ _ ?_
 refine wp_seq_k fun K7 hK7=>?_
 refine Qab ?_
 refine Qaa (.slice a_t ts.length c_t) 25 rfl kj kj ?_
 refine Qal (.int .i64 ((m:Nat):Int)) 51 #[.slice a_t ts.length c_t] 26 rfl kj kj (QkH ts a_t c_t _ _ (TrAt.ext ht x4) htl L hL (by omega) _ (by omega)) fun W5 e5=>?_
 have x5:Ext w W5:=Ext.tr x4 e5
 refine Qap (#[.int .i64 0]) 3 7 rfl kj kj fun g8 W6 l8 e6 r8_6=>?_
 have x6:Ext w W6:=Ext.tr x5 e6
 have b8:w.heap.size≤g8:=qT x5.size l8
 refine Qa5 g8 _ (#[.int .i64 ((m:Nat):Int)]) 3 r8_6 rfl kj (Qa4 3 _ _ g8 0 3 _ (.int .i64 ((m:Nat):Int)) r8_6 rfl kj kj kj kj kj rfl) fun W7 p7 r8_7=>?_
 have x7:Ext w W7:=Puts.ext p7 x6 b8
 refine Qae ?_
 refine hK7 _ _ ?_
 refine wp_seq_k fun K9 hK9=>?_
 refine wp_seq_k fun K10 hK10=>?_
 refine Qab ?_
 refine Qaa (.int .i64 ((m:Nat):Int)) 27 rfl kj (Qag 3 _ g8 0 3 _ (.int .i64 ((m:Nat):Int)) _ r8_7 rfl kj kj kj) ?_
 refine Qaa (.bool false) 28 rfl kj (Qai (u:=.bool ((((m:Nat):Int)==32))) kj (congrArg Value.bool (beq_eq_false_iff_ne.2 (by omega)))) ?_
 refine Qae ?_
 refine hK10 _ _ ?_
 refine cond_false kj ?_
 refine wp_skip ?_
 refine hK9 _ _ ?_
 refine wp_seq_k fun K11 hK11=>?_
 refine Qab ?_
 refine Qaa (.slice a_t ts.length c_t) 30 rfl kj kj ?_
 refine Qa7 (fun v W'=>(fun v W=>∃ us,AsC us ts∧OwT W7.heap.size us v W∧∃ g,v=.slice (some ⟨g,0,none⟩) ts.length ts.length) v W'∧Ext W7 W') 16 #[.slice a_t ts.length c_t] 31 rfl kj kj ((Qjl ts a_t _ _ _ (TrAt.ext ht x7) htl hmt).mono (by rintro e w' ⟨v,rfl,e1,hv⟩; exact ⟨v,rfl,hv,e1⟩)) fun vv12 W8 hh12=>?_
 obtain ⟨hv12,e8⟩:=hh12
 have x8:Ext w W8:=Ext.tr x7 e8
 obtain ⟨us,has,hU,gO,rfl⟩:=hv12
 obtain ⟨lgO,cuO,rO8⟩:=hU.rowBlock (g:=gO) rfl
 have bgO:w.heap.size≤gO:=qT x7.size lgO
 refine Qap (#[.slice none 0 0]) 23 8 rfl kj kj fun g14 W9 l14 e9 r14_9=>?_
 have x9:Ext w W9:=Ext.tr x8 e9
 have b14:w.heap.size≤g14:=qT x8.size l14
 refine Qa5 g14 _ (#[.slice (some ⟨gO,0,none⟩) ts.length ts.length]) 23 r14_9 rfl kj (Qa4 23 _ _ g14 0 23 _ (.slice (some ⟨gO,0,none⟩) ts.length ts.length) r14_9 rfl kj kj kj kj kj rfl) fun W10 p10 r14_10=>?_
 have x10:Ext w W10:=Puts.ext p10 x9 b14
 refine Qae ?_
 refine hK11 _ _ ?_
 refine wp_seq_k fun K15 hK15=>?_
 refine wp_seq_k fun K16 hK16=>?_
 refine Qab ?_
 have r8_8:=(Qah r8_7 e8)
 have r8_9:=(Qah r8_8 e9)
 have r8_10:=(Puts.row p10 r8_9 (QaM r8_8 l14))
 refine Qaa (.int .i64 ((m:Nat):Int)) 32 rfl kj (Qag 3 _ g8 0 3 _ (.int .i64 ((m:Nat):Int)) _ r8_10 rfl kj kj kj) ?_
 refine Qaa (.int .i64 (((2*m:Nat):Int))) 33 rfl kj (Qai (u:=.int .i64 (IntKind.i64.wrap (2*((m:Nat):Int)))) kj (congrArg (Value.int .i64) ((IntWalk.i64_in _ (by omega)).trans (by omega)))) ?_
 refine Qaa (.slice a_t ts.length c_t) 34 rfl kj kj ?_
 refine Qaa (.int .i64 ((ts.length:Nat):Int)) 35 rfl kj kj ?_
 refine Qaa (.bool false) 36 rfl kj (Qai (u:=.bool (decide (((2*m:Nat):Int)≥((ts.length:Nat):Int)))) kj (congrArg Value.bool (decide_eq_false (by omega)))) ?_
 refine Qae ?_
 refine hK16 _ _ ?_
 refine cond_false kj ?_
 refine wp_skip ?_
 refine hK15 _ _ ?_
 refine wp_seq_k fun K17 hK17=>?_
 refine Qbl 5 [⟨none,[(8,none)]⟩,⟨none,[(7,none)]⟩,⟨none,[(43,some 1)]⟩,⟨none,[(3,none)]⟩,⟨none,[(45,some 3)]⟩] kj kj fun F hF=>?_
 refine Qbc (Qaw _) (.slice (some ⟨gO,0,none⟩) ts.length ts.length) kj kj (fun W hR=>(Qag 23 _ g14 0 23 _ (.slice (some ⟨gO,0,none⟩) ts.length ts.length) _ (Qah (Qah r14_10 (Qa0 _)) hR) rfl kj kj kj)) ?_
 refine Qbc (Qaw _) (.int .i64 ((m:Nat):Int)) kj kj (fun W hR=>(Qag 3 _ g8 0 3 _ (.int .i64 ((m:Nat):Int)) _ (Qah (Qah r8_10 (Qa0 _)) hR) rfl kj kj kj)) ?_
 refine QaJ (Qaw _) (.int .i64 (((2*m:Nat):Int))) kj kj (fun W=>(Qai (u:=.int .i64 (IntKind.i64.wrap (2*((m:Nat):Int)))) kj (congrArg (Value.int .i64) ((IntWalk.i64_in _ (by omega)).trans (by omega))))) ?_
 have r2_4:=(Qah r2_3 e4)
 have r2_5:=(Qah r2_4 e5)
 have r2_6:=(Qah r2_5 e6)
 have r2_7:=(Puts.row p7 r2_6 (QaM r2_5 l8))
 have r2_8:=(Qah r2_7 e8)
 have r2_9:=(Qah r2_8 e9)
 have r2_10:=(Puts.row p10 r2_9 (QaM r2_8 l14))
 refine Qbc (Qaw _) (.agg (cat [#[.bool nd.n.us],#[.int .i64 nd.n.nm],ints .u8 (nd.n.key),ints .u8 (nd.n.sg),ints .u8 (nd.n.pa),#[.slice nd.a nd.n.ms.length nd.c]])) kj kj (fun W hR=>(Qa9 41 _ g2 41 _ _ (Qah (Qah r2_10 (Qa0 _)) hR) rfl kj kj (isz (n:=99) kj (by rw [Qac,Qac,Qac,Qac,Qac,Qac]; simp only [qS,cat,((Qaf _ _).trans hok.gl),((Qaf _ _).trans hok.kl),((Qaf _ _).trans hok.pl)]; rfl)))) ?_
 refine Qil (Qaw _) (fun v W=>∃ u,v=.agg (cat [#[.bool nd.n.us],#[.int .i64 nd.n.nm],ints .u8 (nd.n.key),ints .u8 (nd.n.sg),ints .u8 (nd.n.pa),#[u]])∧OwnN .i64 3 W10.heap.size nd.n.ms u W) (fun _ _ _ hR ⟨u,e,h⟩=>⟨u,e,h.ext hR⟩) 45 #[.agg (cat [#[.bool nd.n.us],#[.int .i64 nd.n.nm],ints .u8 (nd.n.key),ints .u8 (nd.n.sg),ints .u8 (nd.n.pa),#[.slice nd.a nd.n.ms.length nd.c]])] kj kj (fun W=>by kernel_rfl) (fun W hR=>Qio nd hok _ W10.heap.size W (qT (Qa0 _).size hR.size) (qT hnm (by decide)) (RdK.here (RdK.ext hr (Rely.Ext.trans (Rely.Ext.trans x10 (Qa0 _)) hR)))) ?_
 refine Qer (hF _ fun W11 e11=>?_)
 simp only [List.nil_append,List.cons_append,List.take_succ_cons,List.take_zero,List.drop_succ_cons,List.drop_zero,finE,up]
 intro vv18 hv18
 clear hF
 have x11:Ext w W11:=Ext.tr x10 e11
 obtain ⟨u5,rfl,hu5⟩:=hv18
 obtain ⟨a5,c5,rfl,-⟩:=id (OwnN.rd hu5)
 refine Qaa (.pointer (some ⟨gO,0+(2*m)*99,none⟩)) 47 rfl kj (Qa6 23 _ _ .i64 (2*m) gO 0 ts.length ts.length 41 99 rfl kj kj kj kj (by omega)) ?_
 have hV0:=(OwH.ext (OwH.putsT (OwH.ext hU e9) p10 r14_9 (by decide) (by decide)) e11)
 have hM0:=has.1
 have hn5:NdIn W7.heap.size W11 ⟨nd.n,a5,c5⟩:=⟨hok,qT hnm (by decide),OwnN.base (qT (qT (qT (qR _) e8.size) e9.size) (qE p10.2.2.2.1.symm)) hu5⟩
 have hne5:∀ j,j<ts.length→∀ g,ob ⟨nd.n,a5,c5⟩=some g→ob (ndi us j)≠some g:=fun j hj g h1 h2=>by have h3:=OwnN.ge hu5 h1; have h4:=(hU.nd j (by omega) (by simp)).lt h2; have h5:=(qT (qT (qR _) e9.size) (qE p10.2.2.2.1.symm)); omega
 refine QdE 41 _ _ gO (2*m) ts.length (h:=none) hM0 hV0 (.inl rfl) (by omega) hn5 (fun j hj _=>hne5 j hj) rfl kj kj kj rfl kj fun W12 p12 hV1=>?_
 have x12:Ext w W12:=Puts.ext p12 x11 bgO
 obtain ⟨bs,hbs⟩:∃ z,z=(us).set (2*m) ⟨nd.n,a5,c5⟩:=⟨_,rfl⟩
 rw [←hbs] at hV1
 have hbl:bs.length=ts.length:=by rw [hbs,List.length_set]; exact hM0
 refine Qae ?_
 refine hK17 _ _ ?_
 refine wp_seq_k fun K19 hK19=>?_
 refine wp_seq_k fun K20 hK20=>?_
 refine Qbl 5 [⟨none,[(7,none)]⟩,⟨none,[(48,some 0)]⟩,⟨none,[(8,none)]⟩,⟨none,[(50,some 2)]⟩,⟨none,[(51,some 3)]⟩] kj kj fun F hF=>?_
 have r8_11:=(Qah r8_10 e11)
 have r8_12:=(Puts.row p12 r8_11 (QaM r8_7 lgO))
 refine Qbc (Qaw _) (.int .i64 ((m:Nat):Int)) kj kj (fun W hR=>(Qag 3 _ g8 0 3 _ (.int .i64 ((m:Nat):Int)) _ (Qah (Qah r8_12 (Qa0 _)) hR) rfl kj kj kj)) ?_
 refine QaJ (Qaw _) (.int .i64 (2*((m:Nat):Int))) kj kj (fun W=>(Qai (u:=.int .i64 (IntKind.i64.wrap (2*((m:Nat):Int)))) kj (congrArg (Value.int .i64) (IntWalk.i64_in _ (by omega))))) ?_
 have r14_11:=(Qah r14_10 e11)
 have r14_12:=(Puts.row p12 r14_11 (Qeg rO8 l14))
 refine Qbc (Qaw _) (.slice (some ⟨gO,0,none⟩) ts.length ts.length) kj kj (fun W hR=>(Qag 23 _ g14 0 23 _ (.slice (some ⟨gO,0,none⟩) ts.length ts.length) _ (Qah (Qah r14_12 (Qa0 _)) hR) rfl kj kj kj)) ?_
 refine QaJ (Qaw _) (.int .i64 ((ts.length:Nat):Int)) kj kj (fun W=>by kernel_rfl) ?_
 refine Qj6 (Qaw _) (.int .i64 ((L:Nat):Int)) 36 #[.int .i64 ((ts.length:Nat):Int)] kj kj (fun W=>by kernel_rfl) (fun W hR=>Qbr (((ts.length:Nat)):Int) ⟨by omega,by omega⟩ _ hLV W) ?_
 refine Qer (hF _ fun W13 e13=>?_)
 simp only [List.nil_append,List.cons_append,List.take_succ_cons,List.take_zero,List.drop_succ_cons,List.drop_zero,finE,up]
 clear hF
 have x13:Ext w W13:=Ext.tr x12 e13
 refine Qa7 (fun v W'=>(fun v W=>∃ g1 g2,v=.func (.func 69) #[] #[.pointer (some ⟨g1,0,none⟩),.pointer (some ⟨g2,0,none⟩)]∧W13.heap.size≤g1∧W13.heap.size≤g2∧W.heap[g1]? = some (.cells #[.int .i64 (2*((m:Nat):Int))] 3)∧W.heap[g2]? = some (.cells #[.int .i64 (((L:Nat):Int))] 3)) v W'∧Ext W13 W') 52 #[.int .i64 (2*((m:Nat):Int)),.int .i64 ((L:Nat):Int)] 53 rfl kj kj ((QiQ (2*((m:Nat):Int)) (((L:Nat):Int)) _).mono (by rintro e w' ⟨v,rfl,e1,hv⟩; exact ⟨v,rfl,hv,e1⟩)) fun vv21 W14 hh21=>?_
 obtain ⟨hv21,e14⟩:=hh21
 have x14:Ext w W14:=Ext.tr x13 e14
 obtain ⟨gp1,gp2,rfl,lp1,lp2,rp1,rp2⟩:=hv21
 refine Qae ?_
 refine hK20 _ _ ?_
 refine wp_block ?_
 have r14_13:=(Qah r14_12 e13)
 have r14_14:=(Qah r14_13 e14)
 have r8_13:=(Qah r8_12 e13)
 have r8_14:=(Qah r8_13 e14)
 have y12_13:Ext W12 W13:=(Rely.Ext.trans (Rely.Ext.refl W12) e13)
 have y12_14:Ext W12 W14:=(Rely.Ext.trans y12_13 e14)
 have hV2:=OwH.ext hV1 y12_14
 have hgV:=hV1.lt (g:=gO) rfl
 have hgp1:gO<gp1:=qL hgV (qT (qT (qR _) e13.size) lp1)
 have hgp2:gO<gp2:=qL hgV (qT (qT (qR _) e13.size) lp2)
 have hav0:(∀ j,j<ts.length→ob (ndi bs j)≠some gp1∧ob (ndi bs j)≠some gp2):=fun j hj=>⟨fun e=>by have h1:=(hV1.nd j (by omega) (by simp)).lt e; have h2:=qT (qT (qR _) e13.size) lp1; omega,fun e=>by have h1:=(hV1.nd j (by omega) (by simp)).lt e; have h2:=qT (qT (qR _) e13.size) lp2; omega⟩
 have hob:w.heap.size≤W7.heap.size:=x7.size
 have hg7o:g8<W7.heap.size:=QaB r8_7
 have hTo:0<W7.heap.size:=qL hT.1 hob
 have hrb:Rise 900 bs:=hbs▸Qgw (has.rise hrt) hnd9 hnm
 have hoW:=(qT (qT (qT (qT (qT (qT (qT (qR _) e8.size) e9.size) (qE p10.2.2.2.1.symm)) e11.size) (qE p12.2.2.2.1.symm)) e13.size) e14.size)
 have n8V:g14≠gO:=(Qeg rO8 l14)
 have n7V:g8≠gO:=(QaM r8_7 lgO)
 have hgp1W:=QaB rp1
 have hgp2W:=QaB rp2
 obtain ⟨pk,hpk⟩:∃ pk:Nat→Prop,pk=fun k=>k≠gp1∧k≠gp2∧k≠0:=⟨_,rfl⟩
 refine QcE (gf:=69) (lb:=#[.pointer (some ⟨gp1,0,none⟩),.pointer (some ⟨gp2,0,none⟩)]) (enc:=fun z:Nat=>.int .i64 ((upN (2*((m:Nat):Int)) ((L:Nat):Int) z:Nat):Int)) kj (enters_of Tryd.func69 kj rfl) (Qea 2 pk gp1 gp2 (2*((m:Nat):Int)) ((L:Nat):Int) hYi W14 (TabAt.ext hT x14) rp1 rp2 (by rw [hpk]; simp) (by rw [hpk]; simp) (by rw [hpk]; simp)) (fun h k=>Qb0.trans h k) Qb0.book (Below.refl _ _)
   (fun pre W=>((W.heap[g14]? = some (.cells (#[.slice (some ⟨gO,0,none⟩) ts.length ts.length]) 23))∧(W.heap[g8]? = some (.cells (#[.int .i64 ((m:Nat):Int)]) 3))∧(∃ vs,AsC vs (insL bs (2*((m:Nat):Int)) ((L:Nat):Int) ((m:Nat):Int) pre)∧OwT W7.heap.size vs (.slice (some ⟨gO,0,none⟩) (ts.length) (ts.length)) W∧(∀ j,j<ts.length→ob (ndi vs j)≠some gp1∧ob (ndi vs j)≠some gp2))∧W14.heap.size≤W.heap.size)∧Ext w W)
   (fun c pre W=>False∧Ext w W) (OwnFrom.and (Own.from (fun s A B row hs hg hr=>by obtain ⟨h1,h2,⟨vs,h3,h4,h5⟩,h6⟩:=hs; exact ⟨QaL h1 hg hr,QaL h2 hg hr,⟨vs,h3,OwH.grown h4 hg hr,h5⟩,qT h6 hg.size⟩) _) (ownFrom_below (qR _) x14.size)) (fun c=>OwnFrom.and (Own.from (fun _ _ _ _ hs _ _=>hs) _) (ownFrom_below (qR _) x14.size)) ⟨⟨r14_14,r8_14,⟨bs,⟨rfl,fun _ _=>rfl⟩,hV2,hav0⟩,qR _⟩,x14⟩ (fun z=>[(9,.int .i64 ((upN (2*((m:Nat):Int)) ((L:Nat):Int) z:Nat):Int)),(54,.int .i64 ((upN (2*((m:Nat):Int)) ((L:Nat):Int) z:Nat):Int))]) (fun l z W K hK=>?_) (fun l pre z W hI hp=>?_) (fun D ys W lD hS hI rD=>?_) (fun D c pre W lD hSp hIx rD=>?_)
 ·refine Qa1 ?_
  refine Qay (.int .i64 ((upN (2*((m:Nat):Int)) ((L:Nat):Int) z:Nat):Int)) 9 rfl (Qan l 1 _) rfl kj kj ?_
  refine Qba ?_
  exact hK
 ·skip
  obtain ⟨⟨q8,q7,⟨vs,hvc,hU,hav⟩,hsz⟩,xx⟩:=hI
  have hul:=Qdz (x:=2*((m:Nat):Int)) z hTV
  have hvl:vs.length=ts.length:=hvc.1.trans ((Qby _ _ _ _ _).trans hbl)
  have hrv:=hvc.rise (Qem pre bs 900 hrb)
  obtain ⟨u,hu⟩:∃ u,u=(upN (2*((m:Nat):Int)) ((L:Nat):Int) z):=⟨_,rfl⟩
  rw [←hu] at hul ⊢
  have hnt:=hU.node (i:=u) hvl (by omega)
  obtain ⟨nt,ent⟩:∃ z,z=ndi vs u:=⟨_,rfl⟩
  rw [←ent] at hnt
  have okt:=hnt.ok
  have hni:NdIn W7.heap.size W nt:=ent▸hU.nd u (by omega) (by simp)
  have hil:upN (2*((m:Nat):Int)) ((L:Nat):Int) z<(insL bs (2*((m:Nat):Int)) ((L:Nat):Int) ((m:Nat):Int) pre).length:=by rw [Qby,hbl,←hu]; omega
  refine wpIn_block ?_
  refine wpIn_seq_k fun K503 hK503=>?_
  refine Qa1 ?_
  refine Qay (.slice (some ⟨gO,0,none⟩) ts.length ts.length) 55 rfl (Qan l 1 _) rfl kj (Qag 23 _ g14 0 23 _ (.slice (some ⟨gO,0,none⟩) ts.length ts.length) _ q8 rfl kj kj kj) ?_
  refine Qay (.int .i64 ((u:Nat):Int)) 56 rfl (Qan l 1 _) rfl kj kj ?_
  refine Qay (.pointer (some ⟨gO,0+u*99,none⟩)) 57 rfl (Qan l 1 _) rfl kj (Qa6 23 _ _ .i64 u gO 0 ts.length ts.length 41 99 rfl kj kj kj kj (by omega)) ?_
  refine Qay (.pointer (some ⟨gO,0+u*99,none⟩)) 58 rfl (Qan l 1 _) rfl kj kj ?_
  refine Qay (.bool nt.n.us) 59 rfl (Qan l 1 _) rfl kj (Qaj 4 _ _ (.bool nt.n.us) (NdAt.at3 hnt).1 rfl kj kj) ?_
  refine Qba ?_
  refine hK503 _ _ ?_
  refine Qb5 (t:=nt.n.us) kj (fun c504=>?_) (fun c504=>?_)
  ·skip
   have hus:nt.n.us=true:=c504
   refine Wk.region_walkI (fun W=>(W.heap[g14]? = some (.cells (#[.slice (some ⟨gO,0,none⟩) ts.length ts.length]) 23))∧(W.heap[g8]? = some (.cells (#[.int .i64 ((m:Nat):Int)]) 3))) kj fun W1 e1=>⟨⟨Qah q8 e1,Qah q7 e1⟩,?_⟩
   refine Wk.wi_val (Qan l 1 _) 0 (.slice (some ⟨gO,0,none⟩) ts.length ts.length) 60 rfl rfl kj kj (fun _ _ _ h=>h) (fun W hR=>(Qag 23 _ g14 0 23 _ (.slice (some ⟨gO,0,none⟩) ts.length ts.length) _ hR.1 rfl kj kj kj)) ?_
   refine Wk.wi_val (Qan l 1 _) 1 (.int .i64 ((u:Nat):Int)) 61 rfl rfl kj kj (fun _ _ _ h=>h) (fun W hR=>by kernel_rfl) ?_
   refine Wk.wi_val (Qan l 1 _) 2 (.slice (some ⟨gO,0,none⟩) ts.length ts.length) 62 rfl rfl kj kj (fun _ _ _ h=>h) (fun W hR=>(Qag 23 _ g14 0 23 _ (.slice (some ⟨gO,0,none⟩) ts.length ts.length) _ hR.1 rfl kj kj kj)) ?_
   refine Wk.wi_val (Qan l 1 _) 3 (.int .i64 ((u:Nat):Int)) 63 rfl rfl kj kj (fun _ _ _ h=>h) (fun W hR=>by kernel_rfl) ?_
   refine Wk.wi_val (Qan l 1 _) 4 (.pointer (some ⟨gO,0+u*99,none⟩)) 64 rfl rfl kj kj (fun _ _ _ h=>h) (fun W hR=>(Qa6 23 _ _ .i64 u gO 0 (ts.length) (ts.length) 41 99 rfl kj kj kj kj (by omega))) ?_
   refine Wk.wi_val (Qan l 1 _) 5 (.pointer (some ⟨gO,0+u*99+98,none⟩)) 65 rfl rfl kj kj (fun _ _ _ h=>h) (fun W hR=>by kernel_rfl) ?_
   refine Wk.wi_val (Qan l 1 _) 7 (.int .i64 ((m:Nat):Int)) 67 rfl rfl kj kj (fun _ _ _ h=>h) (fun W hR=>(Qag 3 _ g8 0 3 _ (.int .i64 ((m:Nat):Int)) _ hR.2 rfl kj kj kj)) ?_
   refine Wk.wi_one 6 kj ?_
   refine Wk.wio_run (Qan l 1 _) rfl rfl (.slice nt.a nt.n.ms.length nt.c) W1 66 rfl kj (Qaj 36 _ _ (.slice nt.a nt.n.ms.length nt.c) (NdAt.at3 (NdAt.ext hnt e1)).2.2 rfl kj kj) ⟨Qah q8 e1,Qah q7 e1⟩ ?_
   have x1:Ext w W1:=Ext.tr xx e1
   have hni1:NdIn W7.heap.size W1 nt:=hni.keep fun g hg=>e1.block g (hni.lt hg)
   have hU1:=OwH.ext hU e1
   have hrn:=hrv u (by omega)
   rw [←ent] at hrn
   have hn8:ob nt≠some g14:=fun e=>by obtain ⟨cu,r⟩:=QbP hni1.2.2 e; rw [Qah q8 e1] at r; simp at r
   have hn7:ob nt≠some g8:=fun e=>by have:=hni1.2.2.ge e; omega
   refine Wk.wi_one 8 kj ?_
   refine Wk.wio_callR (Qan l 1 _) rfl rfl (fun v W'=>OwnN .i64 3 W7.heap.size (insA nt.n.ms (posI nt.n.ms ((m:Nat):Int)) ((m:Nat):Int)) v W'∧W1.grownBy W' (ob nt)∧(Value.ownBlock v=ob nt∨∃ g,Value.ownBlock v=some g∧W1.heap.size≤g)) 53 #[.slice nt.a nt.n.ms.length nt.c,.int .i64 ((m:Nat):Int)] 68 rfl kj kj ((Qia nt.n.ms ((m:Nat):Int) W7.heap.size _ W1 (by have:=e1.size; omega) hni1.2.2 (qT hni.2.1 (by decide)) hrn.1).mono fun e W' ⟨v,h1,h2⟩=>⟨v,h1,h2⟩) (fun v W' h=>⟨(h.2.1.block _ (QaB (Qah q8 e1)) (fun e=>hn8 e.symm)).trans (Qah q8 e1),(h.2.1.block _ (QaB (Qah q7 e1)) (fun e=>hn7 e.symm)).trans (Qah q7 e1)⟩) fun uu W2 hh=>?_
   obtain ⟨hi1,hi2,hi3⟩:=hh
   have q8b:=(hi2.block _ (QaB (Qah q8 e1)) (fun e=>hn8 e.symm)).trans (Qah q8 e1)
   have q7b:=(hi2.block _ (QaB (Qah q7 e1)) (fun e=>hn7 e.symm)).trans (Qah q7 e1)
   obtain ⟨a6,c6,rfl,-⟩:=id (OwnN.rd hi1)
   have x2:Ext w W2:=QeE x1 hni1.2.2 hob hi2
   have hU2:=OwH.hole (i:=u) hvl hU1 (by omega) (ent▸hi2)
   refine Wk.wi_val (Qan l 1 _) 9 (.pointer (some ⟨gO,0+u*99,none⟩)) 69 rfl rfl kj kj (fun _ _ _ h=>h) (fun W hR=>(Qa6 23 _ _ .i64 u gO 0 (ts.length) (ts.length) 41 99 rfl kj kj kj kj (by omega))) ?_
   refine Wk.wi_val (Qan l 1 _) 10 (.pointer (some ⟨gO,0+u*99+98,none⟩)) 70 rfl rfl kj kj (fun _ _ _ h=>h) (fun W hR=>by kernel_rfl) ?_
   have hil2:(insA nt.n.ms (posI nt.n.ms ((m:Nat):Int)) ((m:Nat):Int)).length≤1000:=by rw [QcI (Qds _ _)]; omega
   have hn6:NdIn W7.heap.size W2 ⟨{ (ndi vs u).n with ms:=insA nt.n.ms (posI nt.n.ms ((m:Nat):Int)) ((m:Nat):Int) },a6,c6⟩:=⟨⟨(ent▸okt).kl,(ent▸okt).gl,(ent▸okt).pl,(ent▸okt).kb,(ent▸okt).gb,(ent▸okt).pb⟩,hil2,hi1⟩
   have ha6:∀ j,j<ts.length→j≠u→∀ g,ob ⟨{ (ndi vs u).n with ms:=insA nt.n.ms (posI nt.n.ms ((m:Nat):Int)) ((m:Nat):Int) },a6,c6⟩=some g→ob (ndi vs j)≠some g:=fun j hj hju g h1 h2=>by
    rcases hi3 with h3 | ⟨g3,h3,h4⟩
    ·exact hU1.ap u j (by omega) (by omega) (fun e=>hju e.symm) (by simp) (by simp) g (by rw [←ent,←h3]; exact h1) h2
    ·obtain rfl:g3=g:=Option.some.inj (h3.symm.trans h1)
     have:=(hU1.nd j (by omega) (by simp)).lt h2
     omega
   have ha7:∀ k,(k=gp1∨k=gp2)→ob ⟨{ (ndi vs u).n with ms:=insA nt.n.ms (posI nt.n.ms ((m:Nat):Int)) ((m:Nat):Int) },a6,c6⟩≠some k:=fun k hk h1=>by
    have h5:=hav u (by omega)
    rw [←ent] at h5
    rcases hi3 with h3 | ⟨g3,h3,h4⟩
    ·rcases hk with rfl | rfl
     ·exact h5.1 (by rw [←h3]; exact h1)
     ·exact h5.2 (by rw [←h3]; exact h1)
    ·obtain rfl:g3=k:=Option.some.inj (h3.symm.trans h1)
     have:=e1.size
     rcases hk with rfl | rfl <;> omega
   refine Wk.wi_one 11 kj ?_
   refine Qgj (Qan l 1 _) rfl rfl 36 _ _ hvl hU2 (by omega) hn6 ha6 rfl kj kj kj rfl kj (fun W' p=>⟨Puts.row p q8b n8V,Puts.row p q7b n7V⟩) fun W3 p3 hU3=>?_
   refine Wk.wi_nil kj ?_
   repeat (first | with_reducible refine goX1 ?_ | with_reducible refine goX2 ?_ | with_reducible refine goX3 ?_)
   obtain ⟨-,cuO,rO2⟩:=hU2.rowBlock (g:=gO) rfl
   have x3:Ext w W3:=Puts.ext p3 x2 (qT hob (hU2.rowBlock (g:=gO) rfl).1)
   have hkp:Qb0 pk W W3:=⟨qT e1.size (qT hi2.size (qE p3.2.2.2.1.symm)),fun k cs t fr q hn=>by
    have hk3:k=gp1∨k=gp2∨k=0:=by rw [hpk] at hn; by_cases h1:k=gp1; exact .inl h1; by_cases h2:k=gp2; exact .inr (.inl h2); by_cases h3:k=0; exact .inr (.inr h3); exact absurd ⟨h1,h2,h3⟩ hn
    have hkl:k<W.heap.size:=(Array.getElem?_eq_some_iff.1 q).1
    have hge:=(hU2.rowBlock (g:=gO) rfl).1
    have hkg:k≠gO:=by rcases hk3 with h | h | h <;> omega
    have hko:some k≠ob nt:=fun e=>by
     have h5:=hav u (by omega)
     rw [←ent] at h5
     rcases hk3 with h | h | h
     ·exact h5.1 (h▸e.symm)
     ·exact h5.2 (h▸e.symm)
     ·have:=hni1.2.2.ge e.symm; omega
    exact (p3.2.2.2.2 k hkg).trans ((hi2.block k (qL hkl e1.size) hko).trans ((e1.block k hkl).trans q))⟩
   exact ⟨((Qb4 e1).trans (Qd5 hni1.2.2 hi2)).trans (QbF p3 rO2),hkp,⟨Puts.row p3 q8b n8V,Puts.row p3 q7b n7V,⟨_,(by rw [Qce,ent]; have:=AsC.step (i:=((m:Nat):Int)) (a:=a6) (c:=c6) hvc hil (by rw [←hu,←ent]; exact hus); rw [←hu] at this; exact this),hU3,fun j hj=>by
    rw [QaC _ (by omega)]
    by_cases e:j=u
    ·rw [if_pos e]; exact ⟨ha7 gp1 (.inl rfl),ha7 gp2 (.inr rfl)⟩
    ·rw [if_neg e]; exact hav j hj⟩,qT hsz hkp.1⟩,x3⟩
  ·skip
   have hus:nt.n.us=false:=c504
   refine wpIn_skip ?_
   repeat (first | with_reducible refine goX1 ?_ | with_reducible refine goX2 ?_ | with_reducible refine goX3 ?_)
   exact ⟨(KeepsOthers.refl _),Qb0.ext (Rely.Ext.refl W),⟨q8,q7,⟨vs,(by rw [Qce]; exact hvc.stay hil (by rw [←hu,←ent]; exact hus)),hU,hav⟩,hsz⟩,xx⟩
 ·obtain ⟨⟨q8,q7,⟨vs,hvc,hU4,hav⟩,hsz⟩,xx⟩:=hI
  obtain ⟨k1,rfl,hneg,hall⟩:=hS
  have bD:w.heap.size≤D:=qT x14.size lD
  have hvl:vs.length=ts.length:=hvc.1.trans ((Qby _ _ _ _ _).trans hbl)
  refine hK19 _ _ ?_
  refine wp_seq_k fun K23 hK23=>?_
  refine QeG 4 [⟨none,[(8,none)]⟩,⟨none,[(7,none)]⟩,⟨none,[(71,some 0)]⟩,⟨none,[(72,some 1)]⟩] kj kj fun F hF=>?_
  refine QdM (.slice (some ⟨gO,0,none⟩) ts.length ts.length) kj kj (fun W hR=>(Qag 23 _ g14 0 23 _ (.slice (some ⟨gO,0,none⟩) ts.length ts.length) _ (Qah (Qah q8 (Qa0 _)) hR) rfl kj kj kj)) ?_
  refine QdM (.int .i64 ((m:Nat):Int)) kj kj (fun W hR=>(Qag 3 _ g8 0 3 _ (.int .i64 ((m:Nat):Int)) _ (Qah (Qah q7 (Qa0 _)) hR) rfl kj kj kj)) ?_
  refine Qfi (.slice (some ⟨gO,0,none⟩) ts.length ts.length) kj kj (fun W=>by kernel_rfl) ?_
  refine Qfi (.int .i64 ((m:Nat):Int)) kj kj (fun W=>by kernel_rfl) ?_
  refine Qft (hF _ kj fun W16 e16=>?_)
  simp only [ups,up,Kn.val,List.take_succ_cons,List.take_zero,List.drop_succ_cons,List.drop_zero,List.nil_append,List.cons_append]
  clear hF
  have x16:Ext w W16:=Ext.tr xx e16
  refine Qaa (.nilIface) 6 rfl kj kj ?_
  refine Qae ?_
  refine hK23 _ _ ?_
  refine wp_ret ?_
  repeat (first | with_reducible refine goR1 ?_ | with_reducible refine goR2 ?_)
  have r22_16:=(Qah rD e16)
  have y15_16:Ext W W16:=(Rely.Ext.trans (Rely.Ext.refl W) e16)
  exact (show bodyPostM _ _ _ _ _ .ret _ _ from Qlk (.slice (some ⟨gO,0,none⟩) ts.length ts.length) (.int .i64 ((m:Nat):Int)) (.nilIface) rfl r22_16 (Qam kj) (Qam kj) (Qam kj) ⟨_,rfl,QbI x16 bD r22_16 _,us,vs,⟨nd.n,a5,c5⟩,has,rfl,(by rw [addT,has.1,if_pos (by omega),←hbs,insT,QdT hneg hall]; exact hvc),some ⟨gO,0,none⟩,ts.length,(by rw [hvl]),(by rw [hvl]; exact (OwH.grown (OwH.ext hU4 y15_16) (grownBy_putObj' _ D _) (fun r e=>by cases e; exact ⟨_,r22_16,rfl⟩)).low hob)⟩)
 ·exact hIx.1.elim
set_option maxRecDepth 100000 in
theorem QkU (ts : List NdV) (a_t:Option Addr) (c_t B1:Nat) (w:World) (ht:TrAt B1 w a_t ts) (htl:ts.length≤100000) (hmt:∀ i,i<ts.length→(ndi ts i).n.ms.length≤1000) (hT:TabAt w) (nd:NdV) (hok:NdOk nd.n) (hc:chkT ts=true) (hs:QaO nd.n=true) (L:Nat) (hL:leaves ((ts.length:Nat):Int)=((L:Nat):Int)) (hL3:L≤32) (hlen:ts.length+1=2*L) (hTr:Qax ((L:Nat):Int)=true) (hf:QaG ts nd.n.nm<0) (m:Nat) (hm:Qc9 ts L=m) (hmL:m=L) (h32:m≠32) (hnm:nd.n.ms.length≤900) (hnd9:nd.n.ms.Pairwise (·≤·)) (hrt:Rise 900 ts) (B2:Nat) (hr:RdK .i64 B2 nd.n.ms (.slice nd.a nd.n.ms.length nd.c) w):Calls Tryd.prog 25 #[.slice a_t ts.length c_t,.agg (cat [#[.bool nd.n.us],#[.int .i64 nd.n.nm],ints .u8 (nd.n.key),ints .u8 (nd.n.sg),ints .u8 (nd.n.pa),#[.slice nd.a nd.n.ms.length nd.c]])] w (QbH w (fun v W=>∃ us rs n5,AsC us ts∧n5.n=nd.n∧AsC rs (addT us m n5 (2*L))∧∃ a c,v=.tuple #[.slice a rs.length c,.int .i64 ((m:Nat):Int),.nilIface]∧OwT w.heap.size rs (.slice a rs.length c) W)):=by
 have hTV:Qax (((2*L):Nat):Int)=true:=QgP hTr (by omega)
 have hLV:leaves (((ts.length+(ts.length+1):Nat)):Int)=(((2*L):Nat):Int):=Qbh (by omega) hTV
 have hYi:i64 (2*((m:Nat):Int)):=⟨by omega,by omega⟩
 refine Qdf 73 [(0,.slice a_t ts.length c_t),(1,.agg (cat [#[.bool nd.n.us],#[.int .i64 nd.n.nm],ints .u8 (nd.n.key),ints .u8 (nd.n.sg),ints .u8 (nd.n.pa),#[.slice nd.a nd.n.ms.length nd.c]]))] Tryd.func25 rfl rfl kj rfl ?_
 refine wp_seq_k fun K1 hK1=>?_
 refine Qab ?_
 refine Qap (cat [#[.bool nd.n.us],#[.int .i64 nd.n.nm],ints .u8 (nd.n.key),ints .u8 (nd.n.sg),ints .u8 (nd.n.pa),#[.slice nd.a nd.n.ms.length nd.c]]) 41 3 rfl kj kj fun g2 W1 l2 e1 r2_1=>?_
 have x1:Ext w W1:=Ext.tr (Rely.Ext.refl w) e1
 have b2:w.heap.size≤g2:=qT (Rely.Ext.refl w).size l2
 refine Qaa (.slice none 0 0) 4 rfl kj kj ?_
 refine Qaa (.int .i64 0) 5 rfl kj kj ?_
 refine Qaa (.nilIface) 6 rfl kj kj ?_
 refine Qae ?_
 refine hK1 _ _ ?_
 refine wp_seq_k fun K3 hK3=>?_
 refine wp_seq_k fun K4 hK4=>?_
 refine Qab ?_
 refine Qaa (.slice a_t ts.length c_t) 10 rfl kj kj ?_
 refine Qal (.nilIface) 11 #[.slice a_t ts.length c_t] 11 rfl kj kj (Qca ts a_t c_t _ _ (TrAt.ext ht x1) htl (fun i hi=>qT (hmt i hi) (by decide)) (TabAt.ext hT x1) hc) fun W2 e2=>?_
 have x2:Ext w W2:=Ext.tr x1 e2
 refine Qaa (.bool false) 12 rfl kj kj ?_
 refine Qaa (.bool false) 13 rfl kj kj ?_
 have r2_2:=(Qah r2_1 e2)
 refine Qaa (.agg (cat [#[.bool nd.n.us],#[.int .i64 nd.n.nm],ints .u8 (nd.n.key),ints .u8 (nd.n.sg),ints .u8 (nd.n.pa),#[.slice nd.a nd.n.ms.length nd.c]])) 14 rfl kj (Qa9 41 _ g2 41 _ _ r2_2 rfl kj kj (isz (n:=99) kj (by rw [Qac,Qac,Qac,Qac,Qac,Qac]; simp only [qS,cat,((Qaf _ _).trans hok.gl),((Qaf _ _).trans hok.kl),((Qaf _ _).trans hok.pl)]; rfl))) ?_
 refine Qal (.bool true) 50 #[.agg (cat [#[.bool nd.n.us],#[.int .i64 nd.n.nm],ints .u8 (nd.n.key),ints .u8 (nd.n.sg),ints .u8 (nd.n.pa),#[.slice nd.a nd.n.ms.length nd.c]])] 15 rfl kj kj ((hs▸Qe1 nd hok _)) fun W3 e3=>?_
 have x3:Ext w W3:=Ext.tr x2 e3
 refine Qaa (.bool false) 16 rfl kj kj ?_
 refine Qaa (.bool false) 17 rfl kj kj ?_
 refine Qae ?_
 refine hK4 _ _ ?_
 refine cond_false kj ?_
 refine wp_skip ?_
 refine hK3 _ _ ?_
 refine wp_seq_k fun K5 hK5=>?_
 refine wp_seq_k fun K6 hK6=>?_
 refine Qab ?_
 refine Qaa (.slice a_t ts.length c_t) 19 rfl kj kj ?_
 refine Qaa (.pointer (some ⟨g2,1,none⟩)) 20 rfl kj kj ?_
 have r2_3:=(Qah r2_2 e3)
 refine Qaa (.int .i64 nd.n.nm) 21 rfl kj (Qag 3 _ g2 1 41 _ (.int .i64 nd.n.nm) _ r2_3 rfl kj (Qak [#[.bool nd.n.us]] [#[.int .i64 nd.n.nm]] [ints .u8 (nd.n.key),ints .u8 (nd.n.sg),ints .u8 (nd.n.pa),#[.slice nd.a nd.n.ms.length nd.c]] 1 kj 0 _ rfl) kj) ?_
 refine Qal (.int .i64 (QaG ts nd.n.nm)) 46 #[.slice a_t ts.length c_t,.int .i64 nd.n.nm] 22 rfl kj kj (Qij ts a_t c_t _ _ (TrAt.ext ht x3) htl L hL (by omega) hL3 hlen nd.n.nm) fun W4 e4=>?_
 have x4:Ext w W4:=Ext.tr x3 e4
 refine Qaa (.bool false) 23 rfl kj (Qai (u:=.bool (decide ((QaG ts nd.n.nm)≥0))) kj (congrArg Value.bool (decide_eq_false (by omega)))) ?_
 refine Qae ?_
 refine hK6 _ _ ?_
 refine cond_false kj ?_
 refine wp_skip ?_
 refine hK5 _ _ ?_
 refine wp_seq_k fun K7 hK7=>?_
 refine Qab ?_
 refine Qaa (.slice a_t ts.length c_t) 25 rfl kj kj ?_
 refine Qal (.int .i64 ((m:Nat):Int)) 51 #[.slice a_t ts.length c_t] 26 rfl kj kj (QkH ts a_t c_t _ _ (TrAt.ext ht x4) htl L hL (by omega) _ (by omega)) fun W5 e5=>?_
 have x5:Ext w W5:=Ext.tr x4 e5
 refine Qap (#[.int .i64 0]) 3 7 rfl kj kj fun g8 W6 l8 e6 r8_6=>?_
 have x6:Ext w W6:=Ext.tr x5 e6
 have b8:w.heap.size≤g8:=qT x5.size l8
 refine Qa5 g8 _ (#[.int .i64 ((m:Nat):Int)]) 3 r8_6 rfl kj (Qa4 3 _ _ g8 0 3 _ (.int .i64 ((m:Nat):Int)) r8_6 rfl kj kj kj kj kj rfl) fun W7 p7 r8_7=>?_
 have x7:Ext w W7:=Puts.ext p7 x6 b8
 refine Qae ?_
 refine hK7 _ _ ?_
 refine wp_seq_k fun K9 hK9=>?_
 refine wp_seq_k fun K10 hK10=>?_
 refine Qab ?_
 refine Qaa (.int .i64 ((m:Nat):Int)) 27 rfl kj (Qag 3 _ g8 0 3 _ (.int .i64 ((m:Nat):Int)) _ r8_7 rfl kj kj kj) ?_
 refine Qaa (.bool false) 28 rfl kj (Qai (u:=.bool ((((m:Nat):Int)==32))) kj (congrArg Value.bool (beq_eq_false_iff_ne.2 (by omega)))) ?_
 refine Qae ?_
 refine hK10 _ _ ?_
 refine cond_false kj ?_
 refine wp_skip ?_
 refine hK9 _ _ ?_
 refine wp_seq_k fun K11 hK11=>?_
 refine Qab ?_
 refine Qaa (.slice a_t ts.length c_t) 30 rfl kj kj ?_
 refine Qa7 (fun v W'=>(fun v W=>∃ us,AsC us ts∧OwT W7.heap.size us v W∧∃ g,v=.slice (some ⟨g,0,none⟩) ts.length ts.length) v W'∧Ext W7 W') 16 #[.slice a_t ts.length c_t] 31 rfl kj kj ((Qjl ts a_t _ _ _ (TrAt.ext ht x7) htl hmt).mono (by rintro e w' ⟨v,rfl,e1,hv⟩; exact ⟨v,rfl,hv,e1⟩)) fun vv12 W8 hh12=>?_
 obtain ⟨hv12,e8⟩:=hh12
 have x8:Ext w W8:=Ext.tr x7 e8
 obtain ⟨us,has,hU,gO,rfl⟩:=hv12
 obtain ⟨lgO,cuO,rO8⟩:=hU.rowBlock (g:=gO) rfl
 have bgO:w.heap.size≤gO:=qT x7.size lgO
 refine Qap (#[.slice none 0 0]) 23 8 rfl kj kj fun g14 W9 l14 e9 r14_9=>?_
 have x9:Ext w W9:=Ext.tr x8 e9
 have b14:w.heap.size≤g14:=qT x8.size l14
 refine Qa5 g14 _ (#[.slice (some ⟨gO,0,none⟩) ts.length ts.length]) 23 r14_9 rfl kj (Qa4 23 _ _ g14 0 23 _ (.slice (some ⟨gO,0,none⟩) ts.length ts.length) r14_9 rfl kj kj kj kj kj rfl) fun W10 p10 r14_10=>?_
 have x10:Ext w W10:=Puts.ext p10 x9 b14
 refine Qae ?_
 refine hK11 _ _ ?_
 refine wp_seq_k fun K15 hK15=>?_
 refine wp_seq_k fun K16 hK16=>?_
 refine Qab ?_
 have r8_8:=(Qah r8_7 e8)
 have r8_9:=(Qah r8_8 e9)
 have r8_10:=(Puts.row p10 r8_9 (QaM r8_8 l14))
 refine Qaa (.int .i64 ((m:Nat):Int)) 32 rfl kj (Qag 3 _ g8 0 3 _ (.int .i64 ((m:Nat):Int)) _ r8_10 rfl kj kj kj) ?_
 refine Qaa (.int .i64 (((2*m:Nat):Int))) 33 rfl kj (Qai (u:=.int .i64 (IntKind.i64.wrap (2*((m:Nat):Int)))) kj (congrArg (Value.int .i64) ((IntWalk.i64_in _ (by omega)).trans (by omega)))) ?_
 refine Qaa (.slice a_t ts.length c_t) 34 rfl kj kj ?_
 refine Qaa (.int .i64 ((ts.length:Nat):Int)) 35 rfl kj kj ?_
 refine Qaa (.bool true) 36 rfl kj (Qai (u:=.bool (decide (((2*m:Nat):Int)≥((ts.length:Nat):Int)))) kj (congrArg Value.bool (decide_eq_true (by omega)))) ?_
 refine Qae ?_
 refine hK16 _ _ ?_
 refine cond_true kj ?_
 refine Qab ?_
 refine Qaa (.slice (some ⟨gO,0,none⟩) ts.length ts.length) 37 rfl kj (Qag 23 _ g14 0 23 _ (.slice (some ⟨gO,0,none⟩) ts.length ts.length) _ r14_10 rfl kj kj kj) ?_
 refine Qaa (.slice a_t ts.length c_t) 38 rfl kj kj ?_
 refine Qaa (.int .i64 ((ts.length:Nat):Int)) 39 rfl kj kj ?_
 refine Qaa (.int .i64 ((ts.length+1:Nat):Int)) 40 rfl kj (Qai (u:=.int .i64 (IntKind.i64.wrap (((ts.length:Nat):Int)+1))) kj (congrArg (Value.int .i64) (i64n _ _ (by omega) (by omega)))) ?_
 refine Qhx (M:=ts.length) (k:=ts.length+1) (.tmp 37) (.tmp 40) 23 3 rfl has.1 (OwH.putsT (OwH.ext hU e9) p10 r14_9 (by decide) (by decide)) kj kj kj kj Qib (by omega) (by omega) (by omega) (qT (qT (qT (qT (qR _) e8.size) e9.size) (qE p10.2.2.2.1.symm)) (qR _)) 41 rfl kj fun gG cG W11 e11 lgG hG=>?_
 have x11:Ext w W11:=Ext.tr x10 e11
 have bgG:w.heap.size≤gG:=qT x10.size lgG
 obtain ⟨-,cuG,rG11⟩:=hG.rowBlock (g:=gG) rfl
 have r14_11:=(Qah r14_10 e11)
 refine Qa5 g14 _ (#[.slice (some ⟨gG,0,none⟩) (ts.length+(ts.length+1)) cG]) 23 r14_11 rfl kj (Qa4 23 _ _ g14 0 23 _ (.slice (some ⟨gG,0,none⟩) (ts.length+(ts.length+1)) cG) r14_11 rfl kj kj kj kj kj rfl) fun W12 p12 r14_12=>?_
 have x12:Ext w W12:=Puts.ext p12 x11 b14
 refine Qae ?_
 refine hK15 _ _ ?_
 refine wp_seq_k fun K18 hK18=>?_
 refine Qbl 5 [⟨none,[(8,none)]⟩,⟨none,[(7,none)]⟩,⟨none,[(43,some 1)]⟩,⟨none,[(3,none)]⟩,⟨none,[(45,some 3)]⟩] kj kj fun F hF=>?_
 refine Qbc (Qaw _) (.slice (some ⟨gG,0,none⟩) (ts.length+(ts.length+1)) cG) kj kj (fun W hR=>(Qag 23 _ g14 0 23 _ (.slice (some ⟨gG,0,none⟩) (ts.length+(ts.length+1)) cG) _ (Qah (Qah r14_12 (Qa0 _)) hR) rfl kj kj kj)) ?_
 have r8_11:=(Qah r8_10 e11)
 have r8_12:=(Puts.row p12 r8_11 (QaM r8_8 l14))
 refine Qbc (Qaw _) (.int .i64 ((m:Nat):Int)) kj kj (fun W hR=>(Qag 3 _ g8 0 3 _ (.int .i64 ((m:Nat):Int)) _ (Qah (Qah r8_12 (Qa0 _)) hR) rfl kj kj kj)) ?_
 refine QaJ (Qaw _) (.int .i64 (((2*m:Nat):Int))) kj kj (fun W=>(Qai (u:=.int .i64 (IntKind.i64.wrap (2*((m:Nat):Int)))) kj (congrArg (Value.int .i64) ((IntWalk.i64_in _ (by omega)).trans (by omega))))) ?_
 have r2_4:=(Qah r2_3 e4)
 have r2_5:=(Qah r2_4 e5)
 have r2_6:=(Qah r2_5 e6)
 have r2_7:=(Puts.row p7 r2_6 (QaM r2_5 l8))
 have r2_8:=(Qah r2_7 e8)
 have r2_9:=(Qah r2_8 e9)
 have r2_10:=(Puts.row p10 r2_9 (QaM r2_8 l14))
 have r2_11:=(Qah r2_10 e11)
 have r2_12:=(Puts.row p12 r2_11 (QaM r2_8 l14))
 refine Qbc (Qaw _) (.agg (cat [#[.bool nd.n.us],#[.int .i64 nd.n.nm],ints .u8 (nd.n.key),ints .u8 (nd.n.sg),ints .u8 (nd.n.pa),#[.slice nd.a nd.n.ms.length nd.c]])) kj kj (fun W hR=>(Qa9 41 _ g2 41 _ _ (Qah (Qah r2_12 (Qa0 _)) hR) rfl kj kj (isz (n:=99) kj (by rw [Qac,Qac,Qac,Qac,Qac,Qac]; simp only [qS,cat,((Qaf _ _).trans hok.gl),((Qaf _ _).trans hok.kl),((Qaf _ _).trans hok.pl)]; rfl)))) ?_
 refine Qil (Qaw _) (fun v W=>∃ u,v=.agg (cat [#[.bool nd.n.us],#[.int .i64 nd.n.nm],ints .u8 (nd.n.key),ints .u8 (nd.n.sg),ints .u8 (nd.n.pa),#[u]])∧OwnN .i64 3 W12.heap.size nd.n.ms u W) (fun _ _ _ hR ⟨u,e,h⟩=>⟨u,e,h.ext hR⟩) 45 #[.agg (cat [#[.bool nd.n.us],#[.int .i64 nd.n.nm],ints .u8 (nd.n.key),ints .u8 (nd.n.sg),ints .u8 (nd.n.pa),#[.slice nd.a nd.n.ms.length nd.c]])] kj kj (fun W=>by kernel_rfl) (fun W hR=>Qio nd hok _ W12.heap.size W (qT (Qa0 _).size hR.size) (qT hnm (by decide)) (RdK.here (RdK.ext hr (Rely.Ext.trans (Rely.Ext.trans x12 (Qa0 _)) hR)))) ?_
 refine Qer (hF _ fun W13 e13=>?_)
 simp only [List.nil_append,List.cons_append,List.take_succ_cons,List.take_zero,List.drop_succ_cons,List.drop_zero,finE,up]
 intro vv19 hv19
 clear hF
 have x13:Ext w W13:=Ext.tr x12 e13
 obtain ⟨u5,rfl,hu5⟩:=hv19
 obtain ⟨a5,c5,rfl,-⟩:=id (OwnN.rd hu5)
 refine Qaa (.pointer (some ⟨gG,0+(2*m)*99,none⟩)) 47 rfl kj (Qa6 23 _ _ .i64 (2*m) gG 0 (ts.length+(ts.length+1)) cG 41 99 rfl kj kj kj kj (by omega)) ?_
 have hV0:=(OwH.ext (OwH.putsT hG p12 r14_11 (by decide) (by decide)) e13)
 have hM0:=(show ((us++List.replicate (ts.length+1) zn)).length=ts.length+(ts.length+1) by rw [List.length_append,qZ,has.1])
 have hn5:NdIn W7.heap.size W13 ⟨nd.n,a5,c5⟩:=⟨hok,qT hnm (by decide),OwnN.base (qT (qT (qT (qT (qT (qR _) e8.size) e9.size) (qE p10.2.2.2.1.symm)) e11.size) (qE p12.2.2.2.1.symm)) hu5⟩
 have hne5:∀ j,j<ts.length+(ts.length+1)→∀ g,ob ⟨nd.n,a5,c5⟩=some g→ob (ndi (us++List.replicate (ts.length+1) zn) j)≠some g:=fun j hj g h1 h2=>by have h3:=OwnN.ge hu5 h1; have h4:=(hG.nd j (by omega) (by simp)).lt h2; have h5:=(qT (qR _) (qE p12.2.2.2.1.symm)); omega
 refine QdE 41 _ _ gG (2*m) cG (h:=none) hM0 hV0 (.inl rfl) (by omega) hn5 (fun j hj _=>hne5 j hj) rfl kj kj kj rfl kj fun W14 p14 hV1=>?_
 have x14:Ext w W14:=Puts.ext p14 x13 bgG
 obtain ⟨bs,hbs⟩:∃ z,z=((us++List.replicate (ts.length+1) zn)).set (2*m) ⟨nd.n,a5,c5⟩:=⟨_,rfl⟩
 rw [←hbs] at hV1
 have hbl:bs.length=ts.length+(ts.length+1):=by rw [hbs,List.length_set]; exact hM0
 refine Qae ?_
 refine hK18 _ _ ?_
 refine wp_seq_k fun K20 hK20=>?_
 refine wp_seq_k fun K21 hK21=>?_
 refine Qbl 5 [⟨none,[(7,none)]⟩,⟨none,[(48,some 0)]⟩,⟨none,[(8,none)]⟩,⟨none,[(50,some 2)]⟩,⟨none,[(51,some 3)]⟩] kj kj fun F hF=>?_
 have r8_13:=(Qah r8_12 e13)
 have r8_14:=(Puts.row p14 r8_13 (QaM r8_10 lgG))
 refine Qbc (Qaw _) (.int .i64 ((m:Nat):Int)) kj kj (fun W hR=>(Qag 3 _ g8 0 3 _ (.int .i64 ((m:Nat):Int)) _ (Qah (Qah r8_14 (Qa0 _)) hR) rfl kj kj kj)) ?_
 refine QaJ (Qaw _) (.int .i64 (2*((m:Nat):Int))) kj kj (fun W=>(Qai (u:=.int .i64 (IntKind.i64.wrap (2*((m:Nat):Int)))) kj (congrArg (Value.int .i64) (IntWalk.i64_in _ (by omega))))) ?_
 have r14_13:=(Qah r14_12 e13)
 have r14_14:=(Puts.row p14 r14_13 (QaM r14_10 lgG))
 refine Qbc (Qaw _) (.slice (some ⟨gG,0,none⟩) (ts.length+(ts.length+1)) cG) kj kj (fun W hR=>(Qag 23 _ g14 0 23 _ (.slice (some ⟨gG,0,none⟩) (ts.length+(ts.length+1)) cG) _ (Qah (Qah r14_14 (Qa0 _)) hR) rfl kj kj kj)) ?_
 refine QaJ (Qaw _) (.int .i64 ((ts.length+(ts.length+1):Nat):Int)) kj kj (fun W=>by kernel_rfl) ?_
 refine Qj6 (Qaw _) (.int .i64 (((2*L):Nat):Int)) 36 #[.int .i64 ((ts.length+(ts.length+1):Nat):Int)] kj kj (fun W=>by kernel_rfl) (fun W hR=>Qbr (((ts.length+(ts.length+1):Nat)):Int) ⟨by omega,by omega⟩ _ hLV W) ?_
 refine Qer (hF _ fun W15 e15=>?_)
 simp only [List.nil_append,List.cons_append,List.take_succ_cons,List.take_zero,List.drop_succ_cons,List.drop_zero,finE,up]
 clear hF
 have x15:Ext w W15:=Ext.tr x14 e15
 refine Qa7 (fun v W'=>(fun v W=>∃ g1 g2,v=.func (.func 69) #[] #[.pointer (some ⟨g1,0,none⟩),.pointer (some ⟨g2,0,none⟩)]∧W15.heap.size≤g1∧W15.heap.size≤g2∧W.heap[g1]? = some (.cells #[.int .i64 (2*((m:Nat):Int))] 3)∧W.heap[g2]? = some (.cells #[.int .i64 ((((2*L):Nat):Int))] 3)) v W'∧Ext W15 W') 52 #[.int .i64 (2*((m:Nat):Int)),.int .i64 (((2*L):Nat):Int)] 53 rfl kj kj ((QiQ (2*((m:Nat):Int)) ((((2*L):Nat):Int)) _).mono (by rintro e w' ⟨v,rfl,e1,hv⟩; exact ⟨v,rfl,hv,e1⟩)) fun vv22 W16 hh22=>?_
 obtain ⟨hv22,e16⟩:=hh22
 have x16:Ext w W16:=Ext.tr x15 e16
 obtain ⟨gp1,gp2,rfl,lp1,lp2,rp1,rp2⟩:=hv22
 refine Qae ?_
 refine hK21 _ _ ?_
 refine wp_block ?_
 have r14_15:=(Qah r14_14 e15)
 have r14_16:=(Qah r14_15 e16)
 have r8_15:=(Qah r8_14 e15)
 have r8_16:=(Qah r8_15 e16)
 have y14_15:Ext W14 W15:=(Rely.Ext.trans (Rely.Ext.refl W14) e15)
 have y14_16:Ext W14 W16:=(Rely.Ext.trans y14_15 e16)
 have hV2:=OwH.ext hV1 y14_16
 have hgV:=hV1.lt (g:=gG) rfl
 have hgp1:gG<gp1:=qL hgV (qT (qT (qR _) e15.size) lp1)
 have hgp2:gG<gp2:=qL hgV (qT (qT (qR _) e15.size) lp2)
 have hav0:(∀ j,j<ts.length+(ts.length+1)→ob (ndi bs j)≠some gp1∧ob (ndi bs j)≠some gp2):=fun j hj=>⟨fun e=>by have h1:=(hV1.nd j (by omega) (by simp)).lt e; have h2:=qT (qT (qR _) e15.size) lp1; omega,fun e=>by have h1:=(hV1.nd j (by omega) (by simp)).lt e; have h2:=qT (qT (qR _) e15.size) lp2; omega⟩
 have hob:w.heap.size≤W7.heap.size:=x7.size
 have hg7o:g8<W7.heap.size:=QaB r8_7
 have hTo:0<W7.heap.size:=qL hT.1 hob
 have hrb:Rise 900 bs:=hbs▸Qgw (QiI (has.rise hrt)) hnd9 hnm
 have hoW:=(qT (qT (qT (qT (qT (qT (qT (qT (qT (qR _) e8.size) e9.size) (qE p10.2.2.2.1.symm)) e11.size) (qE p12.2.2.2.1.symm)) e13.size) (qE p14.2.2.2.1.symm)) e15.size) e16.size)
 have n8V:g14≠gG:=(QaM r14_10 lgG)
 have n7V:g8≠gG:=(QaM r8_10 lgG)
 have hgp1W:=QaB rp1
 have hgp2W:=QaB rp2
 obtain ⟨pk,hpk⟩:∃ pk:Nat→Prop,pk=fun k=>k≠gp1∧k≠gp2∧k≠0:=⟨_,rfl⟩
 refine QcE (gf:=69) (lb:=#[.pointer (some ⟨gp1,0,none⟩),.pointer (some ⟨gp2,0,none⟩)]) (enc:=fun z:Nat=>.int .i64 ((upN (2*((m:Nat):Int)) (((2*L):Nat):Int) z:Nat):Int)) kj (enters_of Tryd.func69 kj rfl) (Qea 2 pk gp1 gp2 (2*((m:Nat):Int)) (((2*L):Nat):Int) hYi W16 (TabAt.ext hT x16) rp1 rp2 (by rw [hpk]; simp) (by rw [hpk]; simp) (by rw [hpk]; simp)) (fun h k=>Qb0.trans h k) Qb0.book (Below.refl _ _)
   (fun pre W=>((W.heap[g14]? = some (.cells (#[.slice (some ⟨gG,0,none⟩) (ts.length+(ts.length+1)) cG]) 23))∧(W.heap[g8]? = some (.cells (#[.int .i64 ((m:Nat):Int)]) 3))∧(∃ vs,AsC vs (insL bs (2*((m:Nat):Int)) (((2*L):Nat):Int) ((m:Nat):Int) pre)∧OwT W7.heap.size vs (.slice (some ⟨gG,0,none⟩) (ts.length+(ts.length+1)) (cG)) W∧(∀ j,j<ts.length+(ts.length+1)→ob (ndi vs j)≠some gp1∧ob (ndi vs j)≠some gp2))∧W16.heap.size≤W.heap.size)∧Ext w W)
   (fun c pre W=>False∧Ext w W) (OwnFrom.and (Own.from (fun s A B row hs hg hr=>by obtain ⟨h1,h2,⟨vs,h3,h4,h5⟩,h6⟩:=hs; exact ⟨QaL h1 hg hr,QaL h2 hg hr,⟨vs,h3,OwH.grown h4 hg hr,h5⟩,qT h6 hg.size⟩) _) (ownFrom_below (qR _) x16.size)) (fun c=>OwnFrom.and (Own.from (fun _ _ _ _ hs _ _=>hs) _) (ownFrom_below (qR _) x16.size)) ⟨⟨r14_16,r8_16,⟨bs,⟨rfl,fun _ _=>rfl⟩,hV2,hav0⟩,qR _⟩,x16⟩ (fun z=>[(9,.int .i64 ((upN (2*((m:Nat):Int)) (((2*L):Nat):Int) z:Nat):Int)),(54,.int .i64 ((upN (2*((m:Nat):Int)) (((2*L):Nat):Int) z:Nat):Int))]) (fun l z W K hK=>?_) (fun l pre z W hI hp=>?_) (fun D ys W lD hS hI rD=>?_) (fun D c pre W lD hSp hIx rD=>?_)
 ·refine Qa1 ?_
  refine Qay (.int .i64 ((upN (2*((m:Nat):Int)) (((2*L):Nat):Int) z:Nat):Int)) 9 rfl (Qan l 1 _) rfl kj kj ?_
  refine Qba ?_
  exact hK
 ·skip
  obtain ⟨⟨q8,q7,⟨vs,hvc,hU,hav⟩,hsz⟩,xx⟩:=hI
  have hul:=Qdz (x:=2*((m:Nat):Int)) z hTV
  have hvl:vs.length=ts.length+(ts.length+1):=hvc.1.trans ((Qby _ _ _ _ _).trans hbl)
  have hrv:=hvc.rise (Qem pre bs 900 hrb)
  obtain ⟨u,hu⟩:∃ u,u=(upN (2*((m:Nat):Int)) (((2*L):Nat):Int) z):=⟨_,rfl⟩
  rw [←hu] at hul ⊢
  have hnt:=hU.node (i:=u) hvl (by omega)
  obtain ⟨nt,ent⟩:∃ z,z=ndi vs u:=⟨_,rfl⟩
  rw [←ent] at hnt
  have okt:=hnt.ok
  have hni:NdIn W7.heap.size W nt:=ent▸hU.nd u (by omega) (by simp)
  have hil:upN (2*((m:Nat):Int)) (((2*L):Nat):Int) z<(insL bs (2*((m:Nat):Int)) (((2*L):Nat):Int) ((m:Nat):Int) pre).length:=by rw [Qby,hbl,←hu]; omega
  refine wpIn_block ?_
  refine wpIn_seq_k fun K503 hK503=>?_
  refine Qa1 ?_
  refine Qay (.slice (some ⟨gG,0,none⟩) (ts.length+(ts.length+1)) cG) 55 rfl (Qan l 1 _) rfl kj (Qag 23 _ g14 0 23 _ (.slice (some ⟨gG,0,none⟩) (ts.length+(ts.length+1)) cG) _ q8 rfl kj kj kj) ?_
  refine Qay (.int .i64 ((u:Nat):Int)) 56 rfl (Qan l 1 _) rfl kj kj ?_
  refine Qay (.pointer (some ⟨gG,0+u*99,none⟩)) 57 rfl (Qan l 1 _) rfl kj (Qa6 23 _ _ .i64 u gG 0 (ts.length+(ts.length+1)) cG 41 99 rfl kj kj kj kj (by omega)) ?_
  refine Qay (.pointer (some ⟨gG,0+u*99,none⟩)) 58 rfl (Qan l 1 _) rfl kj kj ?_
  refine Qay (.bool nt.n.us) 59 rfl (Qan l 1 _) rfl kj (Qaj 4 _ _ (.bool nt.n.us) (NdAt.at3 hnt).1 rfl kj kj) ?_
  refine Qba ?_
  refine hK503 _ _ ?_
  refine Qb5 (t:=nt.n.us) kj (fun c504=>?_) (fun c504=>?_)
  ·skip
   have hus:nt.n.us=true:=c504
   refine Wk.region_walkI (fun W=>(W.heap[g14]? = some (.cells (#[.slice (some ⟨gG,0,none⟩) (ts.length+(ts.length+1)) cG]) 23))∧(W.heap[g8]? = some (.cells (#[.int .i64 ((m:Nat):Int)]) 3))) kj fun W1 e1=>⟨⟨Qah q8 e1,Qah q7 e1⟩,?_⟩
   refine Wk.wi_val (Qan l 1 _) 0 (.slice (some ⟨gG,0,none⟩) (ts.length+(ts.length+1)) cG) 60 rfl rfl kj kj (fun _ _ _ h=>h) (fun W hR=>(Qag 23 _ g14 0 23 _ (.slice (some ⟨gG,0,none⟩) (ts.length+(ts.length+1)) cG) _ hR.1 rfl kj kj kj)) ?_
   refine Wk.wi_val (Qan l 1 _) 1 (.int .i64 ((u:Nat):Int)) 61 rfl rfl kj kj (fun _ _ _ h=>h) (fun W hR=>by kernel_rfl) ?_
   refine Wk.wi_val (Qan l 1 _) 2 (.slice (some ⟨gG,0,none⟩) (ts.length+(ts.length+1)) cG) 62 rfl rfl kj kj (fun _ _ _ h=>h) (fun W hR=>(Qag 23 _ g14 0 23 _ (.slice (some ⟨gG,0,none⟩) (ts.length+(ts.length+1)) cG) _ hR.1 rfl kj kj kj)) ?_
   refine Wk.wi_val (Qan l 1 _) 3 (.int .i64 ((u:Nat):Int)) 63 rfl rfl kj kj (fun _ _ _ h=>h) (fun W hR=>by kernel_rfl) ?_
   refine Wk.wi_val (Qan l 1 _) 4 (.pointer (some ⟨gG,0+u*99,none⟩)) 64 rfl rfl kj kj (fun _ _ _ h=>h) (fun W hR=>(Qa6 23 _ _ .i64 u gG 0 (ts.length+(ts.length+1)) (cG) 41 99 rfl kj kj kj kj (by omega))) ?_
   refine Wk.wi_val (Qan l 1 _) 5 (.pointer (some ⟨gG,0+u*99+98,none⟩)) 65 rfl rfl kj kj (fun _ _ _ h=>h) (fun W hR=>by kernel_rfl) ?_
   refine Wk.wi_val (Qan l 1 _) 7 (.int .i64 ((m:Nat):Int)) 67 rfl rfl kj kj (fun _ _ _ h=>h) (fun W hR=>(Qag 3 _ g8 0 3 _ (.int .i64 ((m:Nat):Int)) _ hR.2 rfl kj kj kj)) ?_
   refine Wk.wi_one 6 kj ?_
   refine Wk.wio_run (Qan l 1 _) rfl rfl (.slice nt.a nt.n.ms.length nt.c) W1 66 rfl kj (Qaj 36 _ _ (.slice nt.a nt.n.ms.length nt.c) (NdAt.at3 (NdAt.ext hnt e1)).2.2 rfl kj kj) ⟨Qah q8 e1,Qah q7 e1⟩ ?_
   have x1:Ext w W1:=Ext.tr xx e1
   have hni1:NdIn W7.heap.size W1 nt:=hni.keep fun g hg=>e1.block g (hni.lt hg)
   have hU1:=OwH.ext hU e1
   have hrn:=hrv u (by omega)
   rw [←ent] at hrn
   have hn8:ob nt≠some g14:=fun e=>by obtain ⟨cu,r⟩:=QbP hni1.2.2 e; rw [Qah q8 e1] at r; simp at r
   have hn7:ob nt≠some g8:=fun e=>by have:=hni1.2.2.ge e; omega
   refine Wk.wi_one 8 kj ?_
   refine Wk.wio_callR (Qan l 1 _) rfl rfl (fun v W'=>OwnN .i64 3 W7.heap.size (insA nt.n.ms (posI nt.n.ms ((m:Nat):Int)) ((m:Nat):Int)) v W'∧W1.grownBy W' (ob nt)∧(Value.ownBlock v=ob nt∨∃ g,Value.ownBlock v=some g∧W1.heap.size≤g)) 53 #[.slice nt.a nt.n.ms.length nt.c,.int .i64 ((m:Nat):Int)] 68 rfl kj kj ((Qia nt.n.ms ((m:Nat):Int) W7.heap.size _ W1 (by have:=e1.size; omega) hni1.2.2 (qT hni.2.1 (by decide)) hrn.1).mono fun e W' ⟨v,h1,h2⟩=>⟨v,h1,h2⟩) (fun v W' h=>⟨(h.2.1.block _ (QaB (Qah q8 e1)) (fun e=>hn8 e.symm)).trans (Qah q8 e1),(h.2.1.block _ (QaB (Qah q7 e1)) (fun e=>hn7 e.symm)).trans (Qah q7 e1)⟩) fun uu W2 hh=>?_
   obtain ⟨hi1,hi2,hi3⟩:=hh
   have q8b:=(hi2.block _ (QaB (Qah q8 e1)) (fun e=>hn8 e.symm)).trans (Qah q8 e1)
   have q7b:=(hi2.block _ (QaB (Qah q7 e1)) (fun e=>hn7 e.symm)).trans (Qah q7 e1)
   obtain ⟨a6,c6,rfl,-⟩:=id (OwnN.rd hi1)
   have x2:Ext w W2:=QeE x1 hni1.2.2 hob hi2
   have hU2:=OwH.hole (i:=u) hvl hU1 (by omega) (ent▸hi2)
   refine Wk.wi_val (Qan l 1 _) 9 (.pointer (some ⟨gG,0+u*99,none⟩)) 69 rfl rfl kj kj (fun _ _ _ h=>h) (fun W hR=>(Qa6 23 _ _ .i64 u gG 0 (ts.length+(ts.length+1)) (cG) 41 99 rfl kj kj kj kj (by omega))) ?_
   refine Wk.wi_val (Qan l 1 _) 10 (.pointer (some ⟨gG,0+u*99+98,none⟩)) 70 rfl rfl kj kj (fun _ _ _ h=>h) (fun W hR=>by kernel_rfl) ?_
   have hil2:(insA nt.n.ms (posI nt.n.ms ((m:Nat):Int)) ((m:Nat):Int)).length≤1000:=by rw [QcI (Qds _ _)]; omega
   have hn6:NdIn W7.heap.size W2 ⟨{ (ndi vs u).n with ms:=insA nt.n.ms (posI nt.n.ms ((m:Nat):Int)) ((m:Nat):Int) },a6,c6⟩:=⟨⟨(ent▸okt).kl,(ent▸okt).gl,(ent▸okt).pl,(ent▸okt).kb,(ent▸okt).gb,(ent▸okt).pb⟩,hil2,hi1⟩
   have ha6:∀ j,j<ts.length+(ts.length+1)→j≠u→∀ g,ob ⟨{ (ndi vs u).n with ms:=insA nt.n.ms (posI nt.n.ms ((m:Nat):Int)) ((m:Nat):Int) },a6,c6⟩=some g→ob (ndi vs j)≠some g:=fun j hj hju g h1 h2=>by
    rcases hi3 with h3 | ⟨g3,h3,h4⟩
    ·exact hU1.ap u j (by omega) (by omega) (fun e=>hju e.symm) (by simp) (by simp) g (by rw [←ent,←h3]; exact h1) h2
    ·obtain rfl:g3=g:=Option.some.inj (h3.symm.trans h1)
     have:=(hU1.nd j (by omega) (by simp)).lt h2
     omega
   have ha7:∀ k,(k=gp1∨k=gp2)→ob ⟨{ (ndi vs u).n with ms:=insA nt.n.ms (posI nt.n.ms ((m:Nat):Int)) ((m:Nat):Int) },a6,c6⟩≠some k:=fun k hk h1=>by
    have h5:=hav u (by omega)
    rw [←ent] at h5
    rcases hi3 with h3 | ⟨g3,h3,h4⟩
    ·rcases hk with rfl | rfl
     ·exact h5.1 (by rw [←h3]; exact h1)
     ·exact h5.2 (by rw [←h3]; exact h1)
    ·obtain rfl:g3=k:=Option.some.inj (h3.symm.trans h1)
     have:=e1.size
     rcases hk with rfl | rfl <;> omega
   refine Wk.wi_one 11 kj ?_
   refine Qgj (Qan l 1 _) rfl rfl 36 _ _ hvl hU2 (by omega) hn6 ha6 rfl kj kj kj rfl kj (fun W' p=>⟨Puts.row p q8b n8V,Puts.row p q7b n7V⟩) fun W3 p3 hU3=>?_
   refine Wk.wi_nil kj ?_
   repeat (first | with_reducible refine goX1 ?_ | with_reducible refine goX2 ?_ | with_reducible refine goX3 ?_)
   obtain ⟨-,cuO,rO2⟩:=hU2.rowBlock (g:=gG) rfl
   have x3:Ext w W3:=Puts.ext p3 x2 (qT hob (hU2.rowBlock (g:=gG) rfl).1)
   have hkp:Qb0 pk W W3:=⟨qT e1.size (qT hi2.size (qE p3.2.2.2.1.symm)),fun k cs t fr q hn=>by
    have hk3:k=gp1∨k=gp2∨k=0:=by rw [hpk] at hn; by_cases h1:k=gp1; exact .inl h1; by_cases h2:k=gp2; exact .inr (.inl h2); by_cases h3:k=0; exact .inr (.inr h3); exact absurd ⟨h1,h2,h3⟩ hn
    have hkl:k<W.heap.size:=(Array.getElem?_eq_some_iff.1 q).1
    have hge:=(hU2.rowBlock (g:=gG) rfl).1
    have hkg:k≠gG:=by rcases hk3 with h | h | h <;> omega
    have hko:some k≠ob nt:=fun e=>by
     have h5:=hav u (by omega)
     rw [←ent] at h5
     rcases hk3 with h | h | h
     ·exact h5.1 (h▸e.symm)
     ·exact h5.2 (h▸e.symm)
     ·have:=hni1.2.2.ge e.symm; omega
    exact (p3.2.2.2.2 k hkg).trans ((hi2.block k (qL hkl e1.size) hko).trans ((e1.block k hkl).trans q))⟩
   exact ⟨((Qb4 e1).trans (Qd5 hni1.2.2 hi2)).trans (QbF p3 rO2),hkp,⟨Puts.row p3 q8b n8V,Puts.row p3 q7b n7V,⟨_,(by rw [Qce,ent]; have:=AsC.step (i:=((m:Nat):Int)) (a:=a6) (c:=c6) hvc hil (by rw [←hu,←ent]; exact hus); rw [←hu] at this; exact this),hU3,fun j hj=>by
    rw [QaC _ (by omega)]
    by_cases e:j=u
    ·rw [if_pos e]; exact ⟨ha7 gp1 (.inl rfl),ha7 gp2 (.inr rfl)⟩
    ·rw [if_neg e]; exact hav j hj⟩,qT hsz hkp.1⟩,x3⟩
  ·skip
   have hus:nt.n.us=false:=c504
   refine wpIn_skip ?_
   repeat (first | with_reducible refine goX1 ?_ | with_reducible refine goX2 ?_ | with_reducible refine goX3 ?_)
   exact ⟨(KeepsOthers.refl _),Qb0.ext (Rely.Ext.refl W),⟨q8,q7,⟨vs,(by rw [Qce]; exact hvc.stay hil (by rw [←hu,←ent]; exact hus)),hU,hav⟩,hsz⟩,xx⟩
 ·obtain ⟨⟨q8,q7,⟨vs,hvc,hU4,hav⟩,hsz⟩,xx⟩:=hI
  obtain ⟨k1,rfl,hneg,hall⟩:=hS
  have bD:w.heap.size≤D:=qT x16.size lD
  have hvl:vs.length=ts.length+(ts.length+1):=hvc.1.trans ((Qby _ _ _ _ _).trans hbl)
  refine hK20 _ _ ?_
  refine wp_seq_k fun K24 hK24=>?_
  refine QeG 4 [⟨none,[(8,none)]⟩,⟨none,[(7,none)]⟩,⟨none,[(71,some 0)]⟩,⟨none,[(72,some 1)]⟩] kj kj fun F hF=>?_
  refine QdM (.slice (some ⟨gG,0,none⟩) (ts.length+(ts.length+1)) cG) kj kj (fun W hR=>(Qag 23 _ g14 0 23 _ (.slice (some ⟨gG,0,none⟩) (ts.length+(ts.length+1)) cG) _ (Qah (Qah q8 (Qa0 _)) hR) rfl kj kj kj)) ?_
  refine QdM (.int .i64 ((m:Nat):Int)) kj kj (fun W hR=>(Qag 3 _ g8 0 3 _ (.int .i64 ((m:Nat):Int)) _ (Qah (Qah q7 (Qa0 _)) hR) rfl kj kj kj)) ?_
  refine Qfi (.slice (some ⟨gG,0,none⟩) (ts.length+(ts.length+1)) cG) kj kj (fun W=>by kernel_rfl) ?_
  refine Qfi (.int .i64 ((m:Nat):Int)) kj kj (fun W=>by kernel_rfl) ?_
  refine Qft (hF _ kj fun W18 e18=>?_)
  simp only [ups,up,Kn.val,List.take_succ_cons,List.take_zero,List.drop_succ_cons,List.drop_zero,List.nil_append,List.cons_append]
  clear hF
  have x18:Ext w W18:=Ext.tr xx e18
  refine Qaa (.nilIface) 6 rfl kj kj ?_
  refine Qae ?_
  refine hK24 _ _ ?_
  refine wp_ret ?_
  repeat (first | with_reducible refine goR1 ?_ | with_reducible refine goR2 ?_)
  have r23_18:=(Qah rD e18)
  have y17_18:Ext W W18:=(Rely.Ext.trans (Rely.Ext.refl W) e18)
  exact (show bodyPostM _ _ _ _ _ .ret _ _ from Qlk (.slice (some ⟨gG,0,none⟩) (ts.length+(ts.length+1)) cG) (.int .i64 ((m:Nat):Int)) (.nilIface) rfl r23_18 (Qam kj) (Qam kj) (Qam kj) ⟨_,rfl,QbI x18 bD r23_18 _,us,vs,⟨nd.n,a5,c5⟩,has,rfl,(by rw [addT,has.1,if_neg (by omega),←hbs,insT,QdT hneg hall]; exact hvc),some ⟨gG,0,none⟩,cG,(by rw [hvl]),(by rw [hvl]; exact (OwH.grown (OwH.ext hU4 y17_18) (grownBy_putObj' _ D _) (fun r e=>by cases e; exact ⟨_,r23_18,rfl⟩)).low hob)⟩)
 ·exact hIx.1.elim
end Go.Proofs.YtcmaolmofgmkhaaDoor.Te
end
section
namespace Go.Proofs.YtcmaolmofgmkhaaDoor.Te
open Go Go.RowKit
open Rely Auto Own Seat Sha
theorem AsC.all {us ts:List NdV} (h:AsC us ts) (j:Nat):(ndi us j).n=(ndi ts j).n:=by
  by_cases hj:j<ts.length
  · exact h.2 j hj
  · have e:∀ l:List NdV,l.length≤j→ndi l j=nd0:=fun l hl=>by unfold ndi; rw [List.getD_eq_getElem?_getD,List.getElem?_eq_none hl]; rfl
    rw [e us (by rw [h.1]; omega),e ts (by omega)]
theorem AsC.of {us ts:List NdV} (h:us.length=ts.length) (h2:∀ j,(ndi us j).n=(ndi ts j).n):AsC us ts:=⟨h,fun j _=>h2 j⟩
theorem AsC.refl (ts : List NdV):AsC ts ts:=⟨rfl,fun _ _=>rfl⟩
theorem AsC.trans {us ts vs:List NdV} (h:AsC us ts) (k:AsC ts vs):AsC us vs:=.of (h.1.trans k.1) fun j=>(h.all j).trans (k.all j)
theorem AsC.symm {us ts:List NdV} (h:AsC us ts):AsC ts us:=.of h.1.symm fun j=>(h.all j).symm
section
variable {us ts : List NdV}
theorem AsC.set (h : AsC us ts) (k:Nat) {n n':NdV} (hn:n.n=n'.n):AsC (us.set k n) (ts.set k n'):=by
  refine .of (by rw [List.length_set,List.length_set,h.1]) fun j=>?_
  by_cases e:k<ts.length
  · rw [QaC n (by rw [h.1]; exact e),QaC n' e]
    split
    · exact hn
    · exact h.all j
  · rw [List.set_eq_of_length_le (by rw [h.1]; omega),List.set_eq_of_length_le (by omega)]; exact h.all j
theorem AsC.app (h : AsC us ts) (vs:List NdV):AsC (us++vs) (ts++vs):=by
  refine .of (by rw [List.length_append,List.length_append,h.1]) fun j=>?_
  rw [Qbq,Qbq,h.1]
  split
  · exact h.all j
  · rfl
theorem AsC.take (h : AsC us ts) (k:Nat):AsC (us.take k) (ts.take k):=by
  refine ⟨by rw [List.length_take,List.length_take,h.1],fun j hj=>?_⟩
  rw [List.length_take] at hj
  rw [Qb3 (by omega),Qb3 (by omega)]
  exact h.all j
theorem AsC.stepB (h : AsC us ts) (y n i:Int) (z:Nat):AsC (Qci y n i us z) (Qci y n i ts z):=by
  unfold Qci
  rw [h.all]
  split
  · exact h.set _ rfl
  · exact h
theorem AsC.insL (y n i:Int):∀ (pre:List Nat) {us ts:List NdV},AsC us ts→AsC (insL us y n i pre) (insL ts y n i pre)
  | [],_,_,h=>h
  | z::r,_,_,h=>AsC.insL y n i r (h.stepB y n i z)
theorem AsC.blkL (y n:Int):∀ (pre:List Nat) {us ts:List NdV},AsC us ts→AsC (blkL us y n pre) (blkL ts y n pre)
  | [],_,_,h=>h
  | z::r,_,_,h=>AsC.blkL y n r (h.set _ rfl)
theorem AsC.addT (h : AsC us ts) (m LV:Nat) {n n':NdV} (hn:n.n=n'.n):AsC (addT us m n LV) (addT ts m n' LV):=by
  unfold Te.addT insT
  rw [h.1]
  refine AsC.insL _ _ _ _ ?_
  split
  · exact h.set _ hn
  · exact (h.app _).set _ hn
theorem Qlz (h : AsC us ts):lvs us=lvs ts:=by unfold lvs; rw [h.1]
theorem QjB (h : AsC us ts) (k:Nat):anyU us k=anyU ts k:=by unfold anyU; simp only [h.1,h.all]
theorem Qdx (h : AsC us ts) (L:Nat):Qc9 us L=Qc9 ts L:=by unfold Qc9; simp only [h.all]
theorem Qdy (h : AsC us ts) (nm:Int):QaG us nm=QaG ts nm:=by unfold QaG fitT; simp only [h.1,h.all]
theorem Qdl (h : AsC us ts):∀ k,QaD us k=QaD ts k
  | 0=>rfl
  | k+1=>by unfold QaD; rw [h.all,Qdl h k]
theorem QfJ (h : AsC us ts):∀ k,QaT us k=QaT ts k
  | 0=>rfl
  | k+1=>by unfold QaT; rw [h.all,QfJ h k]
theorem Qim (h : AsC us ts):Qbs us=Qbs ts:=by unfold Qbs; rw [h.1,QfJ h]
theorem QlP (h : AsC us ts) (i n:Int) (k:Nat):okU us i n k=okU ts i n k:=by unfold okU; simp only [h.all]
theorem QjD (h : AsC us ts) (n x i:Int):Qbd us n x i=Qbd ts n x i:=by unfold Qbd; simp only [h.all,QlP h]
theorem Qlx (h : AsC us ts) (n x:Int) (ms:List Int) (k:Nat):msOk us n x ms k=msOk ts n x ms k:=by unfold msOk; rw [QjD h]
theorem QjP (h : AsC us ts) (n:Int) (x:Nat):Qbj us n x=Qbj ts n x:=by unfold Qbj; simp only [h.all,Qlx h]
theorem QiT (h : AsC us ts) (n:Int) (x:Nat):QaR us n x=QaR ts n x:=by unfold QaR; rw [h.all,QjP h]
theorem QcB (h : AsC us ts):chkT us=chkT ts:=by
  have e:QaR us ((lvs ts:Nat):Int)=QaR ts ((lvs ts:Nat):Int):=funext fun x=>QiT h _ x
  unfold chkT
  rw [Qlz h,Qim h,QjB h,h.1,e]
theorem AsC.cutT : ∀ (k:Nat) {us ts:List NdV},AsC us ts→AsC (cutT k us) (cutT k ts)
  | 0,_,_,h=>h
  | k+1,us,ts,h=>by
    unfold Te.cutT
    rw [Qlz h,QjB h,h.1]
    split
    · exact h
    · exact AsC.cutT k (h.take _)
theorem AsC.remT (h : AsC us ts) (m L:Nat):AsC (remT us m L) (remT ts m L):=by
  unfold Te.remT Te.blkT
  rw [h.1]
  exact AsC.cutT _ (AsC.blkL _ _ _ (h.set _ rfl))
end
def lf (n : Int):NdV:=⟨⟨true,n,List.replicate 32 0,List.replicate 32 0,List.replicate 32 0,[]⟩,none,0⟩
theorem QfW (n : Int):NdOk (lf n).n:=⟨rfl,rfl,rfl,zb,zb,zb⟩
def tA : List NdV:=[lf 1]
def tB : List NdV:=addT tA 1 (lf 2) 2
def tC : List NdV:=addT tB 2 (lf 3) 4
def tD : List NdV:=addT tC 3 (lf 4) 4
def tE : List NdV:=remT tD 3 4
def tF : List NdV:=remT tE 2 4
def QfS (b : Nat) (us:List NdV):Bool:=(List.range us.length).all fun j=>decide ((ndi us j).n.ms.Pairwise (·≤·))&&decide ((ndi us j).n.ms.length≤b)
theorem Qdp {b : Nat} {us:List NdV} (h:QfS b us=true):Rise b us:=fun j hj=>by
  have:=List.all_eq_true.1 h j (List.mem_range.2 hj)
  simp only [Bool.and_eq_true,decide_eq_true_eq] at this
  exact this
set_option maxRecDepth 100000 in
theorem Qhr : chkT tA=true∧tA.length=1∧QaG tA 2<0∧Qc9 tA 1=1∧QfS 900 tA=true:=by decide +kernel
set_option maxRecDepth 100000 in
theorem Qhq : chkT tB=true∧tB.length=3∧QaG tB 3<0∧Qc9 tB 2=2∧QfS 900 tB=true:=by decide +kernel
set_option maxRecDepth 100000 in
theorem Qhp : chkT tC=true∧tC.length=7∧QaG tC 4<0∧Qc9 tC 4=3∧QfS 900 tC=true:=by decide +kernel
set_option maxRecDepth 100000 in
theorem QiB : chkT tD=true∧tD.length=7∧(ndi tD (2*3)).n.us=true∧((((QaD tD 4).length:Nat):Int)==1)=false∧QfS 1000 tD=true:=by decide +kernel
set_option maxRecDepth 100000 in
theorem QiA : chkT tE=true∧tE.length=7∧(ndi tE (2*2)).n.us=true∧((((QaD tE 4).length:Nat):Int)==1)=false∧QfS 1000 tE=true:=by decide +kernel
set_option maxRecDepth 100000 in
theorem Qlf : chkT tF=true∧tF.length=3∧QfS 1000 tF=true:=by decide +kernel
end Go.Proofs.YtcmaolmofgmkhaaDoor.Te
end
section
namespace Go.Proofs.YtcmaolmofgmkhaaDoor.Te
open Go Go.RowKit
open Rely Auto Own Seat Sha
theorem oneC (w : World):Calls Tryd.prog 35 #[] w (QbH w (fun v W=>∃ g,v=.slice (some ⟨g,0,none⟩) 1 1∧OwT w.heap.size tA v W)):=by
  refine enter 3 [] Tryd.func35 rfl rfl kj rfl ?_
  refine wp_seq_k fun K1 hK1=>?_
  refine Qab ?_
  refine Qaa (.slice none 0 0) 0 rfl kj kj ?_
  refine Qae ?_
  refine hK1 _ _ ?_
  refine wp_seq_k fun K2 hK2=>?_
  refine Qab ?_
  refine Qaa (.agg (cat [#[.bool true],#[.int .i64 1],ints .u8 (List.replicate 32 0),ints .u8 (List.replicate 32 0),ints .u8 (List.replicate 32 0),#[.slice none 0 0]])) 1 rfl kj kj ?_
  refine Qbw (cat (ndP (lf 1))) 41 1 2 rfl kj kj fun gO W1 lO e1 rO=>?_
  have x1:Ext w W1:=Ext.tr (Rely.Ext.refl w) e1
  refine Qaa (.slice (some ⟨gO,0,none⟩) 1 1) 0 rfl kj kj ?_
  refine Qae ?_
  refine hK2 _ _ ?_
  refine wp_ret ?_
  repeat (first | with_reducible refine goR1 ?_ | with_reducible refine goR2 ?_)
  exact (show bodyPost _ _ _ .ret _ _ from ret1 (.slice (some ⟨gO,0,none⟩) 1 1) rfl (Qam kj) ⟨_,rfl,x1,gO,rfl,OwH.made (h:=none) (ts:=tA) (c:=1) lO rO (Qbf _ (QfW 1)) (qR _) (by decide) (fun i hi j hj=>by obtain rfl:i=0:=Nat.lt_one_iff.1 hi; rw [Nat.zero_mul,Nat.zero_add]; rfl) (fun i hi=>by obtain rfl:i=0:=Nat.lt_one_iff.1 hi; exact QfW 1) (fun i hi _=>by obtain rfl:i=0:=Nat.lt_one_iff.1 hi; exact ⟨QfW 1,by decide,QcG _ _ _ _⟩) (fun i j hi hj hij _ _=>absurd ((Nat.lt_one_iff.1 hi).trans (Nat.lt_one_iff.1 hj).symm) hij)⟩)
set_option maxRecDepth 100000 in
theorem Qiv (w : World) (hT:TabAt w):Calls Tryd.prog 9 #[] w (Ret w (.bool true)):=by
  refine enter 64 [] Tryd.func9 rfl rfl kj rfl ?_
  refine wp_seq_k fun K1 hK1=>?_
  refine Qab ?_
  refine Qaa (.bool false) 0 rfl kj kj ?_
  refine Qae ?_
  refine hK1 _ _ ?_
  refine wp_seq_k fun K2 hK2=>?_
  refine Qab ?_
  refine Qa7 (fun v W'=>(fun v W=>∃ g,v=.slice (some ⟨g,0,none⟩) 1 1∧OwT w.heap.size tA v W) v W'∧Ext w W') 35 #[] 8 rfl kj kj ((oneC _).mono (by rintro e w' ⟨v,rfl,e1,hv⟩; exact ⟨v,rfl,hv,e1⟩)) fun vv3 W1 hh3=>?_
  obtain ⟨hv3,e1⟩:=hh3
  have x1:Ext w W1:=Ext.tr (Rely.Ext.refl w) e1
  obtain ⟨gA,rfl,hO1⟩:=hv3
  obtain ⟨rs1,hrs1⟩:∃ z,z=tA:=⟨_,rfl⟩
  have hs1:AsC rs1 tA:=hrs1▸AsC.refl _
  rw [←hrs1] at hO1
  have hl1:rs1.length=1:=hs1.1.trans Qhr.2.1
  obtain ⟨a1,ha1⟩:∃ z,z=some (⟨gA,0,none⟩:Addr):=⟨_,rfl⟩
  obtain ⟨c1,hc1⟩:∃ z,z=1:=⟨_,rfl⟩
  have hv1:(Value.slice (some ⟨gA,0,none⟩) 1 1)=.slice a1 rs1.length c1:=by rw [hl1,ha1,hc1]
  rw [hv1] at hO1 ⊢
  have ht1:=hO1.tr
  have hm1:∀ j,j<rs1.length→(ndi rs1 j).n.ms.length≤1000:=fun j hj=>(hO1.nd j hj (by simp)).2.1
  refine Qaa (.slice a1 rs1.length c1) 1 rfl kj kj ?_
  refine Qae ?_
  refine hK2 _ _ ?_
  refine wp_seq_k fun K4 hK4=>?_
  refine wp_seq_k fun K5 hK5=>?_
  refine Qab ?_
  refine Qaa (.int .i64 2) 2 rfl kj kj ?_
  refine Qae ?_
  refine hK5 _ _ ?_
  refine wp_block ?_
  refine wp_loop_rounds 5 ?_
  show Code.wp _ _ (Exit.then (Code.rounds _ _ _ 4) _) _ _
  refine wp_seq_k fun K6 hK6=>?_
  refine wp_seq_k fun K7 hK7=>?_
  refine Qab ?_
  refine Qaa (.int .i64 2) 9 rfl kj kj ?_
  refine Qaa (.bool true) 10 rfl kj kj ?_
  refine Qae ?_
  refine hK7 _ _ ?_
  refine cond_true kj ?_
  refine wp_skip ?_
  refine hK6 _ _ ?_
  refine wp_seq_k fun K8 hK8=>?_
  refine wp_block ?_
  refine wp_seq_k fun K9 hK9=>?_
  refine Qab ?_
  refine Qaa (.slice a1 rs1.length c1) 14 rfl kj kj ?_
  refine Qaa (.int .i64 2) 15 rfl kj kj ?_
  refine Qaa (.agg (cat [#[.bool true],#[.int .i64 2],ints .u8 (List.replicate 32 0),ints .u8 (List.replicate 32 0),ints .u8 (List.replicate 32 0),#[.slice none 0 0]])) 16 rfl kj kj ?_
  refine Qa7 (fun v W'=>(fun v W=>∃ us rs n5,AsC us rs1∧n5.n=(lf 2).n∧AsC rs (addT us 1 n5 (2*1))∧∃ a c,v=.tuple #[.slice a rs.length c,.int .i64 ((1:Nat):Int),.nilIface]∧OwT W1.heap.size rs (.slice a rs.length c) W) v W'∧Ext W1 W') 25 #[.slice a1 rs1.length c1,.agg (cat [#[.bool true],#[.int .i64 2],ints .u8 (List.replicate 32 0),ints .u8 (List.replicate 32 0),ints .u8 (List.replicate 32 0),#[.slice none 0 0]])] 17 rfl kj kj ((QkU rs1 a1 c1 _ _ (TrAt.ext ht1 (Rely.Ext.refl W1)) (by rw [hl1]; decide) hm1 (TabAt.ext hT x1) (lf 2) (QfW 2) ((QcB hs1).trans Qhr.1) rfl 1 (Qbh (by rw [hl1]) rfl) (by decide) (by rw [hl1]) rfl (by rw [show QaG rs1 (lf 2).n.nm=QaG tA 2 from Qdy hs1 2]; exact Qhr.2.2.1) 1 ((Qdx hs1 1).trans Qhr.2.2.2.1) rfl (by decide) (Nat.zero_le _) List.Pairwise.nil (hs1.rise (Qdp Qhr.2.2.2.2)) 0 (QcW 0 _)).mono (by rintro e w' ⟨v,rfl,e1,hv⟩; exact ⟨v,rfl,hv,e1⟩)) fun vv10 W2 hh10=>?_
  obtain ⟨hv10,e2⟩:=hh10
  have x2:Ext w W2:=Ext.tr x1 e2
  obtain ⟨us2,rs2,n5,has,hn5,har,a2,c2,rfl,hO2⟩:=hv10
  have hs2:AsC rs2 tB:=har.trans ((has.trans hs1).addT 1 (2*1) hn5)
  have hl2:rs2.length=3:=hs2.1.trans Qhq.2.1
  have ht2:=hO2.tr
  have hm2:∀ j,j<rs2.length→(ndi rs2 j).n.ms.length≤1000:=fun j hj=>(hO2.nd j hj (by simp)).2.1
  clear hO2 har has hn5
  refine Qaa (.tuple #[.slice a2 rs2.length c2,.int .i64 1,.nilIface]) 13 rfl kj kj ?_
  refine Qaa (.slice a2 rs2.length c2) 18 rfl kj kj ?_
  refine Qaa (.int .i64 1) 19 rfl kj kj ?_
  refine Qaa (.nilIface) 20 rfl kj kj ?_
  refine Qaa (.slice a2 rs2.length c2) 3 rfl kj kj ?_
  refine Qaa (.int .i64 1) 4 rfl kj kj ?_
  refine Qaa (.nilIface) 5 rfl kj kj ?_
  refine Qae ?_
  refine hK9 _ _ ?_
  refine wp_seq_k fun K11 hK11=>?_
  refine wp_seq_k fun K12 hK12=>?_
  refine Qab ?_
  refine Qaa (.nilIface) 21 rfl kj kj ?_
  refine Qaa (.bool false) 22 rfl kj kj ?_
  refine Qaa (.bool false) 23 rfl kj kj ?_
  refine Qaa (.int .i64 1) 24 rfl kj kj ?_
  refine Qaa (.int .i64 2) 25 rfl kj kj ?_
  refine Qaa (.int .i64 1) 26 rfl kj kj ?_
  refine Qaa (.bool false) 27 rfl kj kj ?_
  refine Qaa (.bool false) 28 rfl kj kj ?_
  refine Qae ?_
  refine hK12 _ _ ?_
  refine cond_false kj ?_
  refine wp_skip ?_
  refine hK11 _ _ ?_
  refine Qab ?_
  refine Qaa (.slice a2 rs2.length c2) 29 rfl kj kj ?_
  refine Qaa (.slice a2 rs2.length c2) 1 rfl kj kj ?_
  refine Qae ?_
  refine hK8 _ _ ?_
  refine Qab ?_
  refine Qaa (.int .i64 2) 11 rfl kj kj ?_
  refine Qaa (.int .i64 3) 12 rfl kj kj ?_
  refine Qaa (.int .i64 3) 2 rfl kj kj ?_
  refine Qae ?_
  show Code.rounds _ _ _ 4 _ _
  show Code.wp _ _ (Exit.then (Code.rounds _ _ _ 3) _) _ _
  refine wp_seq_k fun K13 hK13=>?_
  refine wp_seq_k fun K14 hK14=>?_
  refine Qab ?_
  refine Qaa (.int .i64 3) 9 rfl kj kj ?_
  refine Qaa (.bool true) 10 rfl kj kj ?_
  refine Qae ?_
  refine hK14 _ _ ?_
  refine cond_true kj ?_
  refine wp_skip ?_
  refine hK13 _ _ ?_
  refine wp_seq_k fun K15 hK15=>?_
  refine wp_block ?_
  refine wp_seq_k fun K16 hK16=>?_
  refine Qab ?_
  refine Qaa (.slice a2 rs2.length c2) 14 rfl kj kj ?_
  refine Qaa (.int .i64 3) 15 rfl kj kj ?_
  refine Qaa (.agg (cat [#[.bool true],#[.int .i64 3],ints .u8 (List.replicate 32 0),ints .u8 (List.replicate 32 0),ints .u8 (List.replicate 32 0),#[.slice none 0 0]])) 16 rfl kj kj ?_
  refine Qa7 (fun v W'=>(fun v W=>∃ us rs n5,AsC us rs2∧n5.n=(lf 3).n∧AsC rs (addT us 2 n5 (2*2))∧∃ a c,v=.tuple #[.slice a rs.length c,.int .i64 ((2:Nat):Int),.nilIface]∧OwT W2.heap.size rs (.slice a rs.length c) W) v W'∧Ext W2 W') 25 #[.slice a2 rs2.length c2,.agg (cat [#[.bool true],#[.int .i64 3],ints .u8 (List.replicate 32 0),ints .u8 (List.replicate 32 0),ints .u8 (List.replicate 32 0),#[.slice none 0 0]])] 17 rfl kj kj ((QkU rs2 a2 c2 _ _ (TrAt.ext ht2 (Rely.Ext.refl W2)) (by rw [hl2]; decide) hm2 (TabAt.ext hT x2) (lf 3) (QfW 3) ((QcB hs2).trans Qhq.1) rfl 2 (Qbh (by rw [hl2]) rfl) (by decide) (by rw [hl2]) rfl (by rw [show QaG rs2 (lf 3).n.nm=QaG tB 3 from Qdy hs2 3]; exact Qhq.2.2.1) 2 ((Qdx hs2 2).trans Qhq.2.2.2.1) rfl (by decide) (Nat.zero_le _) List.Pairwise.nil (hs2.rise (Qdp Qhq.2.2.2.2)) 0 (QcW 0 _)).mono (by rintro e w' ⟨v,rfl,e1,hv⟩; exact ⟨v,rfl,hv,e1⟩)) fun vv17 W3 hh17=>?_
  obtain ⟨hv17,e3⟩:=hh17
  have x3:Ext w W3:=Ext.tr x2 e3
  obtain ⟨us3,rs3,n5,has,hn5,har,a3,c3,rfl,hO3⟩:=hv17
  have hs3:AsC rs3 tC:=har.trans ((has.trans hs2).addT 2 (2*2) hn5)
  have hl3:rs3.length=7:=hs3.1.trans Qhp.2.1
  have ht3:=hO3.tr
  have hm3:∀ j,j<rs3.length→(ndi rs3 j).n.ms.length≤1000:=fun j hj=>(hO3.nd j hj (by simp)).2.1
  clear hO3 har has hn5
  refine Qaa (.tuple #[.slice a3 rs3.length c3,.int .i64 2,.nilIface]) 13 rfl kj kj ?_
  refine Qaa (.slice a3 rs3.length c3) 18 rfl kj kj ?_
  refine Qaa (.int .i64 2) 19 rfl kj kj ?_
  refine Qaa (.nilIface) 20 rfl kj kj ?_
  refine Qaa (.slice a3 rs3.length c3) 3 rfl kj kj ?_
  refine Qaa (.int .i64 2) 4 rfl kj kj ?_
  refine Qaa (.nilIface) 5 rfl kj kj ?_
  refine Qae ?_
  refine hK16 _ _ ?_
  refine wp_seq_k fun K18 hK18=>?_
  refine wp_seq_k fun K19 hK19=>?_
  refine Qab ?_
  refine Qaa (.nilIface) 21 rfl kj kj ?_
  refine Qaa (.bool false) 22 rfl kj kj ?_
  refine Qaa (.bool false) 23 rfl kj kj ?_
  refine Qaa (.int .i64 2) 24 rfl kj kj ?_
  refine Qaa (.int .i64 3) 25 rfl kj kj ?_
  refine Qaa (.int .i64 2) 26 rfl kj kj ?_
  refine Qaa (.bool false) 27 rfl kj kj ?_
  refine Qaa (.bool false) 28 rfl kj kj ?_
  refine Qae ?_
  refine hK19 _ _ ?_
  refine cond_false kj ?_
  refine wp_skip ?_
  refine hK18 _ _ ?_
  refine Qab ?_
  refine Qaa (.slice a3 rs3.length c3) 29 rfl kj kj ?_
  refine Qaa (.slice a3 rs3.length c3) 1 rfl kj kj ?_
  refine Qae ?_
  refine hK15 _ _ ?_
  refine Qab ?_
  refine Qaa (.int .i64 3) 11 rfl kj kj ?_
  refine Qaa (.int .i64 4) 12 rfl kj kj ?_
  refine Qaa (.int .i64 4) 2 rfl kj kj ?_
  refine Qae ?_
  show Code.rounds _ _ _ 3 _ _
  show Code.wp _ _ (Exit.then (Code.rounds _ _ _ 2) _) _ _
  refine wp_seq_k fun K20 hK20=>?_
  refine wp_seq_k fun K21 hK21=>?_
  refine Qab ?_
  refine Qaa (.int .i64 4) 9 rfl kj kj ?_
  refine Qaa (.bool true) 10 rfl kj kj ?_
  refine Qae ?_
  refine hK21 _ _ ?_
  refine cond_true kj ?_
  refine wp_skip ?_
  refine hK20 _ _ ?_
  refine wp_seq_k fun K22 hK22=>?_
  refine wp_block ?_
  refine wp_seq_k fun K23 hK23=>?_
  refine Qab ?_
  refine Qaa (.slice a3 rs3.length c3) 14 rfl kj kj ?_
  refine Qaa (.int .i64 4) 15 rfl kj kj ?_
  refine Qaa (.agg (cat [#[.bool true],#[.int .i64 4],ints .u8 (List.replicate 32 0),ints .u8 (List.replicate 32 0),ints .u8 (List.replicate 32 0),#[.slice none 0 0]])) 16 rfl kj kj ?_
  refine Qa7 (fun v W'=>(fun v W=>∃ us rs n5,AsC us rs3∧n5.n=(lf 4).n∧AsC rs (addT us 3 n5 4)∧∃ a c,v=.tuple #[.slice a rs.length c,.int .i64 ((3:Nat):Int),.nilIface]∧OwT W3.heap.size rs (.slice a rs.length c) W) v W'∧Ext W3 W') 25 #[.slice a3 rs3.length c3,.agg (cat [#[.bool true],#[.int .i64 4],ints .u8 (List.replicate 32 0),ints .u8 (List.replicate 32 0),ints .u8 (List.replicate 32 0),#[.slice none 0 0]])] 17 rfl kj kj ((QlG rs3 a3 c3 _ _ (TrAt.ext ht3 (Rely.Ext.refl W3)) (by rw [hl3]; decide) hm3 (TabAt.ext hT x3) (lf 4) (QfW 4) ((QcB hs3).trans Qhp.1) rfl 4 (Qbh (by rw [hl3]) rfl) (by decide) (by rw [hl3]) rfl (by rw [show QaG rs3 (lf 4).n.nm=QaG tC 4 from Qdy hs3 4]; exact Qhp.2.2.1) 3 ((Qdx hs3 4).trans Qhp.2.2.2.1) (by decide) (Nat.zero_le _) List.Pairwise.nil (hs3.rise (Qdp Qhp.2.2.2.2)) 0 (QcW 0 _)).mono (by rintro e w' ⟨v,rfl,e1,hv⟩; exact ⟨v,rfl,hv,e1⟩)) fun vv24 W4 hh24=>?_
  obtain ⟨hv24,e4⟩:=hh24
  have x4:Ext w W4:=Ext.tr x3 e4
  obtain ⟨us4,rs4,n5,has,hn5,har,a4,c4,rfl,hO4⟩:=hv24
  have hs4:AsC rs4 tD:=har.trans ((has.trans hs3).addT 3 4 hn5)
  have hl4:rs4.length=7:=hs4.1.trans QiB.2.1
  have ht4:=hO4.tr
  have hm4:∀ j,j<rs4.length→(ndi rs4 j).n.ms.length≤1000:=fun j hj=>(hO4.nd j hj (by simp)).2.1
  clear hO4 har has hn5
  refine Qaa (.tuple #[.slice a4 rs4.length c4,.int .i64 3,.nilIface]) 13 rfl kj kj ?_
  refine Qaa (.slice a4 rs4.length c4) 18 rfl kj kj ?_
  refine Qaa (.int .i64 3) 19 rfl kj kj ?_
  refine Qaa (.nilIface) 20 rfl kj kj ?_
  refine Qaa (.slice a4 rs4.length c4) 3 rfl kj kj ?_
  refine Qaa (.int .i64 3) 4 rfl kj kj ?_
  refine Qaa (.nilIface) 5 rfl kj kj ?_
  refine Qae ?_
  refine hK23 _ _ ?_
  refine wp_seq_k fun K25 hK25=>?_
  refine wp_seq_k fun K26 hK26=>?_
  refine Qab ?_
  refine Qaa (.nilIface) 21 rfl kj kj ?_
  refine Qaa (.bool false) 22 rfl kj kj ?_
  refine Qaa (.bool false) 23 rfl kj kj ?_
  refine Qaa (.int .i64 3) 24 rfl kj kj ?_
  refine Qaa (.int .i64 4) 25 rfl kj kj ?_
  refine Qaa (.int .i64 3) 26 rfl kj kj ?_
  refine Qaa (.bool false) 27 rfl kj kj ?_
  refine Qaa (.bool false) 28 rfl kj kj ?_
  refine Qae ?_
  refine hK26 _ _ ?_
  refine cond_false kj ?_
  refine wp_skip ?_
  refine hK25 _ _ ?_
  refine Qab ?_
  refine Qaa (.slice a4 rs4.length c4) 29 rfl kj kj ?_
  refine Qaa (.slice a4 rs4.length c4) 1 rfl kj kj ?_
  refine Qae ?_
  refine hK22 _ _ ?_
  refine Qab ?_
  refine Qaa (.int .i64 4) 11 rfl kj kj ?_
  refine Qaa (.int .i64 5) 12 rfl kj kj ?_
  refine Qaa (.int .i64 5) 2 rfl kj kj ?_
  refine Qae ?_
  show Code.rounds _ _ _ 2 _ _
  show Code.wp _ _ (Exit.then (Code.rounds _ _ _ 1) _) _ _
  refine wp_seq_k fun K27 hK27=>?_
  refine wp_seq_k fun K28 hK28=>?_
  refine Qab ?_
  refine Qaa (.int .i64 5) 9 rfl kj kj ?_
  refine Qaa (.bool false) 10 rfl kj kj ?_
  refine Qae ?_
  refine hK28 _ _ ?_
  refine cond_false kj ?_
  refine wp_exit ?_
  refine hK4 _ _ ?_
  refine wp_seq_k fun K29 hK29=>?_
  refine Qab ?_
  refine Qaa (.slice a4 rs4.length c4) 31 rfl kj kj ?_
  refine Qa7 (fun v W'=>(fun v W=>∃ us rs,AsC us rs4∧rs=remT us 3 4∧∃ u e,v=.tuple #[u,e]∧e=.nilIface∧FrT W4.heap.size rs u W) v W'∧Ext W4 W') 29 #[.slice a4 rs4.length c4,.int .i64 3] 32 rfl kj kj ((QeR rs4 a4 c4 _ _ (TrAt.ext ht4 (Rely.Ext.refl W4)) (by rw [hl4]; decide) hm4 (TabAt.ext hT x4) ((QcB hs4).trans QiB.1) 4 (Qbh (by rw [hl4]) rfl) (by decide) (by rw [hl4]) rfl 3 (by decide) (by rw [hs4.all]; exact QiB.2.2.1) (by rw [Qdl hs4]; exact QiB.2.2.2.1)).mono (by rintro e w' ⟨v,rfl,e1,hv⟩; exact ⟨v,rfl,hv,e1⟩)) fun vv30 W5 hh30=>?_
  obtain ⟨hv30,e5⟩:=hh30
  have x5:Ext w W5:=Ext.tr x4 e5
  obtain ⟨us5,rs5,has,hrs,u5,e5_,rfl,rfl,hfr⟩:=hv30
  obtain ⟨a5,c5,rfl,ht5,-,hm5⟩:=hfr
  have hs5:AsC rs5 tE:=hrs▸(has.trans hs4).remT 3 4
  have hl5:rs5.length=7:=hs5.1.trans QiA.2.1
  clear hrs has
  refine Qaa (.tuple #[.slice a5 rs5.length c5,.nilIface]) 30 rfl kj kj ?_
  refine Qaa (.slice a5 rs5.length c5) 33 rfl kj kj ?_
  refine Qaa (.nilIface) 34 rfl kj kj ?_
  refine Qaa (.slice a5 rs5.length c5) 6 rfl kj kj ?_
  refine Qaa (.nilIface) 7 rfl kj kj ?_
  refine Qae ?_
  refine hK29 _ _ ?_
  refine wp_seq_k fun K31 hK31=>?_
  refine wp_seq_k fun K32 hK32=>?_
  refine Qab ?_
  refine Qaa (.nilIface) 35 rfl kj kj ?_
  refine Qaa (.bool false) 36 rfl kj kj ?_
  refine Qaa (.bool false) 37 rfl kj kj ?_
  refine Qaa (.slice a4 rs4.length c4) 38 rfl kj kj ?_
  refine Qaa (.int .i64 ((rs4.length:Nat):Int)) 39 rfl kj kj ?_
  refine Qaa (.bool false) 40 rfl kj (Qai (u:=.bool ((((rs4.length:Nat):Int) != 7))) kj (congrArg Value.bool (bne_eq_false_iff_eq.2 (by rw [hl4]; rfl)))) ?_
  refine Qaa (.bool false) 41 rfl kj kj ?_
  refine Qaa (.bool false) 42 rfl kj kj ?_
  refine Qaa (.slice a5 rs5.length c5) 43 rfl kj kj ?_
  refine Qaa (.int .i64 ((rs5.length:Nat):Int)) 44 rfl kj kj ?_
  refine Qaa (.bool false) 45 rfl kj (Qai (u:=.bool ((((rs5.length:Nat):Int) != 7))) kj (congrArg Value.bool (bne_eq_false_iff_eq.2 (by rw [hl5]; rfl)))) ?_
  refine Qaa (.bool false) 46 rfl kj kj ?_
  refine Qae ?_
  refine hK32 _ _ ?_
  refine cond_false kj ?_
  refine wp_skip ?_
  refine hK31 _ _ ?_
  refine wp_seq_k fun K33 hK33=>?_
  refine Qab ?_
  refine Qaa (.slice a5 rs5.length c5) 48 rfl kj kj ?_
  refine Qa7 (fun v W'=>(fun v W=>∃ us rs,AsC us rs5∧rs=remT us 2 4∧∃ u e,v=.tuple #[u,e]∧e=.nilIface∧FrT W5.heap.size rs u W) v W'∧Ext W5 W') 29 #[.slice a5 rs5.length c5,.int .i64 2] 49 rfl kj kj ((QeR rs5 a5 c5 _ _ (TrAt.ext ht5 (Rely.Ext.refl W5)) (by rw [hl5]; decide) hm5 (TabAt.ext hT x5) ((QcB hs5).trans QiA.1) 4 (Qbh (by rw [hl5]) rfl) (by decide) (by rw [hl5]) rfl 2 (by decide) (by rw [hs5.all]; exact QiA.2.2.1) (by rw [Qdl hs5]; exact QiA.2.2.2.1)).mono (by rintro e w' ⟨v,rfl,e1,hv⟩; exact ⟨v,rfl,hv,e1⟩)) fun vv34 W6 hh34=>?_
  obtain ⟨hv34,e6⟩:=hh34
  have x6:Ext w W6:=Ext.tr x5 e6
  obtain ⟨us6,rs6,has,hrs,u6,e6_,rfl,rfl,hfr⟩:=hv34
  obtain ⟨a6,c6,rfl,ht6,-,hm6⟩:=hfr
  have hs6:AsC rs6 tF:=hrs▸(has.trans hs5).remT 2 4
  have hl6:rs6.length=3:=hs6.1.trans Qlf.2.1
  clear hrs has
  refine Qaa (.tuple #[.slice a6 rs6.length c6,.nilIface]) 47 rfl kj kj ?_
  refine Qaa (.slice a6 rs6.length c6) 50 rfl kj kj ?_
  refine Qaa (.nilIface) 51 rfl kj kj ?_
  refine Qaa (.slice a6 rs6.length c6) 6 rfl kj kj ?_
  refine Qaa (.nilIface) 7 rfl kj kj ?_
  refine Qae ?_
  refine hK33 _ _ ?_
  refine wp_seq_k fun K35 hK35=>?_
  refine Qab ?_
  refine Qaa (.nilIface) 52 rfl kj kj ?_
  refine Qaa (.bool true) 53 rfl kj kj ?_
  refine Qaa (.bool true) 54 rfl kj kj ?_
  refine Qaa (.slice a6 rs6.length c6) 55 rfl kj kj ?_
  refine Qaa (.int .i64 ((rs6.length:Nat):Int)) 56 rfl kj kj ?_
  refine Qaa (.bool true) 57 rfl kj (Qai (u:=.bool ((((rs6.length:Nat):Int)==3))) kj (congrArg Value.bool (beq_iff_eq.2 (by rw [hl6]; rfl)))) ?_
  refine Qaa (.bool true) 58 rfl kj kj ?_
  refine Qaa (.bool true) 59 rfl kj kj ?_
  refine Qaa (.slice a6 rs6.length c6) 60 rfl kj kj ?_
  refine Qal (.nilIface) 11 #[.slice a6 rs6.length c6] 61 rfl kj kj (Qca rs6 a6 c6 _ _ (TrAt.ext ht6 (Rely.Ext.refl W6)) (by rw [hl6]; decide) (fun j hj=>qT (hm6 j hj) (by decide)) (TabAt.ext hT x6) ((QcB hs6).trans Qlf.1)) fun W7 e7=>?_
  have x7:Ext w W7:=Ext.tr x6 e7
  refine Qaa (.bool true) 62 rfl kj kj ?_
  refine Qaa (.bool true) 63 rfl kj kj ?_
  refine Qaa (.bool true) 0 rfl kj kj ?_
  refine Qae ?_
  refine hK35 _ _ ?_
  refine wp_ret ?_
  repeat (first | with_reducible refine goR1 ?_ | with_reducible refine goR2 ?_)
  exact (show bodyPost _ _ _ .ret _ _ from ret1 (.bool true) rfl (Qam kj) ⟨rfl,x7⟩)
end Go.Proofs.YtcmaolmofgmkhaaDoor.Te
end
section
namespace Go.Proofs.YtcmaolmofgmkhaaDoor.Te
open Go Go.RowKit
open Rely Auto Own Seat Sha
set_option maxRecDepth 100000 in
theorem QkW : QbL (fun n x=>(List.range n.toNat).all fun i=>abv x (2*((i:Nat):Int)) n==(decide ((bel x n).1≤((i:Nat):Int))&&decide (((i:Nat):Int)≤(bel x n).2)))=true:=by decide +kernel
set_option maxRecDepth 100000 in
theorem Qle : QbL (fun n x=>decide (x%2=0) || (List.range n.toNat).all fun i=>abv x (2*((i:Nat):Int)) n==(List.range 6).any fun k=>decide (0≤upn (2*((i:Nat):Int)) n k)&&upn (2*((i:Nat):Int)) n k==x)=true:=by decide +kernel
set_option maxRecDepth 100000 in
theorem Qld : QbL (fun n x=>decide (x%2=0) || (List.range n.toNat).all fun i=>!(abv x (2*((i:Nat):Int)) n) || (List.range 6).all fun k=>decide (upn (2*((i:Nat):Int)) n k<0) || ((abv x (upn (2*((i:Nat):Int)) n k) n&&!(upn (2*((i:Nat):Int)) n k==x))==!((List.range (k+1)).any fun j=>upn (2*((i:Nat):Int)) n j==x)))=true:=by decide +kernel
theorem Qfj {n x:Int} {i:Nat} (h:Qau x n=true) (hi:((i:Nat):Int)<n):abv x (2*((i:Nat):Int)) n=(decide ((bel x n).1≤((i:Nat):Int))&&decide (((i:Nat):Int)≤(bel x n).2)):=by
  have:=List.all_eq_true.1 (QaS QkW h) i (List.mem_range.2 (by omega))
  exact eq_of_beq this
theorem Qiw {n x:Int} {i:Nat} (h:Qau x n=true) (ho:x%2≠0) (hi:((i:Nat):Int)<n):abv x (2*((i:Nat):Int)) n=(List.range 6).any fun k=>decide (0≤upn (2*((i:Nat):Int)) n k)&&upn (2*((i:Nat):Int)) n k==x:=by
  have:=QaS Qle h
  rw [decide_eq_false ho,Bool.false_or] at this
  exact eq_of_beq (List.all_eq_true.1 this i (List.mem_range.2 (by omega)))
theorem Qix {n x:Int} {i k:Nat} (h:Qau x n=true) (ho:x%2≠0) (hi:((i:Nat):Int)<n) (ha:abv x (2*((i:Nat):Int)) n=true) (hk:0≤upn (2*((i:Nat):Int)) n k):(abv x (upn (2*((i:Nat):Int)) n k) n&&!(upn (2*((i:Nat):Int)) n k==x))=!((List.range (k+1)).any fun j=>upn (2*((i:Nat):Int)) n j==x):=by
  have:=QaS Qld h
  rw [decide_eq_false ho,Bool.false_or] at this
  have h2:=List.all_eq_true.1 this i (List.mem_range.2 (by omega))
  rw [ha,Bool.not_true,Bool.false_or] at h2
  have h3:=List.all_eq_true.1 h2 k (List.mem_range.2 (Qe0 hk))
  rw [decide_eq_false (by omega),Bool.false_or] at h3
  exact eq_of_beq h3
section
variable {ts : List NdV} {n x : Int} {i : Nat}
theorem Qgl (h : Qau x n=true) (hi:((i:Nat):Int)<n) (ha:abv x (2*((i:Nat):Int)) n=false):Qbd ts n x ((i:Nat):Int)=false:=by
  rw [Qfj h hi] at ha
  unfold Qbd
  rw [ha]; rfl
theorem QeK {y : Nat} (h:Qau x n=true) (ho:x%2≠0) (hi:((i:Nat):Int)<n) (ha:abv x (2*((i:Nat):Int)) n=true) (hy:Qau ((y:Nat):Int) n=true) (hyo:((y:Nat):Int)%2≠0) (hyx:((y:Nat):Int)≠x) (h1:abv x ((y:Nat):Int) n=true) (h2:abv ((y:Nat):Int) (2*((i:Nat):Int)) n=true)
    (hus:(ndi ts y).n.us=true) (hms:((i:Nat):Int)∉(ndi ts y).n.ms):Qbd ts n x ((i:Nat):Int)=false:=by
  rw [Qiw hy hyo hi] at h2
  obtain ⟨k,hk,hk2⟩:=List.any_eq_true.1 h2
  simp only [Bool.and_eq_true,decide_eq_true_eq,beq_iff_eq] at hk2
  have h3:=Qix h ho hi ha hk2.1
  rw [hk2.2,h1,beq_eq_false_iff_ne.2 hyx] at h3
  have hup:upN (2*((i:Nat):Int)) n k=y:=by have:=Qb8 hk2.1; omega
  have hall:((List.range 6).all fun k=>QdC x (2*((i:Nat):Int)) n k || okU ts ((i:Nat):Int) n k)=false:=by
    rw [List.all_eq_false]
    refine ⟨k,hk,?_⟩
    have e1:QdC x (2*((i:Nat):Int)) n k=false:=by
      unfold QdC
      rw [decide_eq_false (by have:=hk2.1; omega),Bool.false_or]
      simpa using h3
    have e2:okU ts ((i:Nat):Int) n k=false:=by
      unfold okU
      rw [hup,hus,decide_eq_false hms]; rfl
    rw [e1,e2]; decide
  unfold Qbd
  rw [hall,Bool.and_false]
theorem QdO (h : Qau x n=true) (ho:x%2≠0) (hi:((i:Nat):Int)<n) (ha:abv x (2*((i:Nat):Int)) n=true) (hus:(ndi ts (2*i)).n.us=true)
    (hall:∀ y:Nat,((y:Nat):Int)≤2*n-2→y%2=1→((y:Nat):Int)≠x→(ndi ts y).n.us=true→abv x ((y:Nat):Int) n=true→abv ((y:Nat):Int) (2*((i:Nat):Int)) n=true→((i:Nat):Int)∈(ndi ts y).n.ms):Qbd ts n x ((i:Nat):Int)=true:=by
  have hb:=Qfj h hi
  rw [ha] at hb
  unfold Qbd
  rw [show (2*((i:Nat):Int)).toNat=2*i by omega,hus,←hb,Bool.true_and,Bool.true_and]
  rw [List.all_eq_true]
  intro k hk
  rw [Bool.or_eq_true]
  by_cases hs:QdC x (2*((i:Nat):Int)) n k=true
  · exact .inl hs
  · right
    have hs:QdC x (2*((i:Nat):Int)) n k=false:=by simpa using hs
    unfold QdC at hs
    rw [Bool.or_eq_false_iff] at hs
    have hk0:0≤upn (2*((i:Nat):Int)) n k:=by have:=of_decide_eq_false hs.1; omega
    have h3:=Qix h ho hi ha hk0
    rw [hs.2,Bool.not_false,Bool.and_eq_true] at h3
    have hup:=Qb8 hk0
    have hnd:=Qgp hk0
    unfold okU
    cases hu:(ndi ts (upN (2*((i:Nat):Int)) n k)).n.us with
    | false=>rfl
    | true =>
      rw [Bool.not_true,Bool.false_or]
      refine decide_eq_true (hall _ ?_ ?_ ?_ hu ?_ ?_)
      · rw [hup]; exact (Qbg hnd).2.2.1
      · have:=QcL hk0; omega
      · rw [hup]; intro e; rw [e] at h3; simp at h3
      · rw [hup]; exact h3.1
      · rw [hup,Qiw hnd (by have:=QcL hk0; omega) hi]
        exact List.any_eq_true.2 ⟨k,hk,by simp [hk0]⟩
end
end Go.Proofs.YtcmaolmofgmkhaaDoor.Te
end
section
namespace Go.Proofs.YtcmaolmofgmkhaaDoor.Te
open Go Go.RowKit
open Rely Auto Own Seat Sha
theorem Qb9 (x y n:Int) (b:Bool) (h:abv x y n=b) (W:World):Calls Tryd.prog 61 #[.int .i64 x,.int .i64 y,.int .i64 n] W (Ret W (.bool b)):=h▸quiet (rabove x y n W)
theorem inRb (xs : List Int) (n:Int) (a_x:Option Addr) (c_x B1:Nat) (w:World) (hxl:xs.length≤1000000) (hx:RdK .i64 B1 xs (.slice a_x xs.length c_x) w) (b:Bool) (h:decide (n∈xs)=b):Calls Tryd.prog 34 #[.int .i64 n,.slice a_x xs.length c_x] w (Ret w (.bool b)):=h▸inR xs n a_x c_x B1 w hxl hx
theorem Qj9 (A : Prop) (b c d:Bool) (E:Prop):A∨(¬ A∧b=false)∨(¬ A∧b=true∧c=false)∨(¬ A∧b=true∧c=true∧d=false)∨(¬ A∧b=true∧c=true∧d=true∧E)∨(¬ A∧b=true∧c=true∧d=true∧¬ E):=by
  by_cases hA:A
  · exact .inl hA
  by_cases hE:E <;> cases b <;> cases c <;> cases d <;> simp [hA,hE]
theorem QlC (i : Int) (n p:Int) (k:Nat) (u a:Bool):(i<0)∨(i≥0∧n≤i)∨((i≥0∧i<n)∧0<k∧i≤p)∨((i≥0∧i<n)∧(k=0)∧u=false)∨((i≥0∧i<n)∧(0<k∧p<i)∧u=false)∨((i≥0∧i<n)∧(k=0)∧u=true∧a=false)∨((i≥0∧i<n)∧(0<k∧p<i)∧u=true∧a=false)∨((i≥0∧i<n)∧(k=0)∧u=true∧a=true)∨((i≥0∧i<n)∧(0<k∧p<i)∧u=true∧a=true):=by
  rcases (show i<0∨(i≥0∧n≤i)∨((i≥0∧i<n)∧0<k∧i≤p)∨((i≥0∧i<n)∧k=0)∨((i≥0∧i<n)∧0<k∧p<i) by omega) with h | h | h | h | h
  · exact .inl h
  · exact .inr (.inl h)
  · exact .inr (.inr (.inl h))
  · cases u
    · exact .inr (.inr (.inr (.inl ⟨h.1,h.2,rfl⟩)))
    · cases a
      · exact .inr (.inr (.inr (.inr (.inr (.inl ⟨h.1,h.2,rfl,rfl⟩)))))
      · exact .inr (.inr (.inr (.inr (.inr (.inr (.inr (.inl ⟨h.1,h.2,rfl,rfl⟩)))))))
  · cases u
    · exact .inr (.inr (.inr (.inr (.inl ⟨h.1,h.2,rfl⟩))))
    · cases a
      · exact .inr (.inr (.inr (.inr (.inr (.inr (.inl ⟨h.1,h.2,rfl,rfl⟩))))))
      · exact .inr (.inr (.inr (.inr (.inr (.inr (.inr (.inr ⟨h.1,h.2,rfl,rfl⟩)))))))
set_option maxRecDepth 100000 in
theorem QjQ (ts : List NdV) (a_t:Option Addr) (c_t B1:Nat) (w:World) (ht:TrAt B1 w a_t ts) (L:Nat) (hL:leaves ((ts.length:Nat):Int)=((L:Nat):Int)) (hlen:ts.length+1=2*L) (hTr:Qax ((L:Nat):Int)=true) (hmt:∀ i,i<ts.length→(ndi ts i).n.ms.length≤1000000) (htl:ts.length≤100000) (x:Nat) (hx:x<ts.length) (h:x%2≠0) (h1:(ndi ts x).n.nm≠0):Calls Tryd.prog 42 #[.slice a_t ts.length c_t,.int .i64 ((x:Nat):Int),.int .i64 ((L:Nat):Int)] w (Ret w (.bool (Qbj ts ((L:Nat):Int) x))):=by
  have hxn:Qau ((x:Nat):Int) ((L:Nat):Int)=true:=Qbb hTr (by omega)
  refine enter 113 [(0,.slice a_t ts.length c_t),(1,.int .i64 ((x:Nat):Int)),(2,.int .i64 ((L:Nat):Int))] Tryd.func42 rfl rfl kj rfl ?_
  refine wp_seq_k fun K1 hK1=>?_
  refine Qab ?_
  refine Qaa (.bool false) 6 rfl kj kj ?_
  refine Qae ?_
  refine hK1 _ _ ?_
  refine wp_seq_k fun K2 hK2=>?_
  refine Qab ?_
  refine Qaa (.slice a_t ts.length c_t) 11 rfl kj kj ?_
  refine Qaa (.int .i64 ((x:Nat):Int)) 12 rfl kj kj ?_
  obtain ⟨gtT,otT,hat,hnts⟩:=TrAt.ext ht (Rely.Ext.refl w)
  have hnt:=hnts x (by omega)
  obtain ⟨nt,ent⟩:∃ z,z=ndi ts x:=⟨_,rfl⟩
  rw [←ent] at hnt
  have okt:=hnt.ok
  have rdt:=hnt.rd
  refine Qaa (.pointer (some ⟨gtT,otT+x*99,none⟩)) 13 rfl kj (Qao 23 _ _ .i64 x gtT otT ts.length c_t 41 99 a_t (hat (by omega)) rfl kj kj kj kj (by omega)) ?_
  refine Qaa (.agg (cat [#[.bool nt.n.us],#[.int .i64 nt.n.nm],ints .u8 (nt.n.key),ints .u8 (nt.n.sg),ints .u8 (nt.n.pa),#[.slice nt.a nt.n.ms.length nt.c]])) 14 rfl kj (QaH 41 _ gtT (otT+x*99) nt hnt rfl kj kj kj) ?_
  refine Qap (cat [#[.bool false],#[.int .i64 0],ints .u8 (List.replicate 32 0),ints .u8 (List.replicate 32 0),ints .u8 (List.replicate 32 0),#[.slice none 0 0]]) 41 7 rfl kj kj fun g3 W1 l3 e1 r3_1=>?_
  have x1:Ext w W1:=Ext.tr (Rely.Ext.refl w) e1
  have b3:w.heap.size≤g3:=qT (Rely.Ext.refl w).size l3
  refine Qa5 g3 _ (cat [#[.bool nt.n.us],#[.int .i64 nt.n.nm],ints .u8 (nt.n.key),ints .u8 (nt.n.sg),ints .u8 (nt.n.pa),#[.slice nt.a nt.n.ms.length nt.c]]) 41 r3_1 rfl kj (QaE 41 _ _ g3 41 _ _ r3_1 rfl kj kj (isz (n:=99) kj (by rw [Qac,Qac,Qac,Qac,Qac,Qac]; simp only [qS,cat,((Qaf _ _).trans okt.gl),((Qaf _ _).trans okt.kl),((Qaf _ _).trans okt.pl)]; rfl)) (eqsz (n:=99) (by rw [Qac,Qac,Qac,Qac,Qac,Qac]; simp only [qS,cat,((Qaf _ _).trans (qZ (n:=32)))]; rfl) (by rw [Qac,Qac,Qac,Qac,Qac,Qac]; simp only [qS,cat,((Qaf _ _).trans okt.gl),((Qaf _ _).trans okt.kl),((Qaf _ _).trans okt.pl)]; rfl)) (Qbt _ (by intro a ha; simp only [List.mem_cons,List.not_mem_nil,or_false] at ha; rcases ha with rfl | rfl | rfl | rfl | rfl | rfl; exact (Qa2 _ rfl); exact (Qa2 _ rfl); exact (Qa3 _ _); exact (Qa3 _ _); exact (Qa3 _ _); exact (Qa2 _ rfl)))) fun W2 p2 r3_2=>?_
  have x2:Ext w W2:=Puts.ext p2 x1 b3
  refine Qae ?_
  refine hK2 _ _ ?_
  refine wp_seq_k fun K4 hK4=>?_
  refine wp_seq_k fun K5 hK5=>?_
  refine Qab ?_
  refine Qaa (.pointer (some ⟨g3,1,none⟩)) 15 rfl kj kj ?_
  refine Qaa (.int .i64 nt.n.nm) 16 rfl kj (Qag 3 _ g3 1 41 _ (.int .i64 nt.n.nm) _ r3_2 rfl kj (Qak [#[.bool nt.n.us]] [#[.int .i64 nt.n.nm]] [ints .u8 (nt.n.key),ints .u8 (nt.n.sg),ints .u8 (nt.n.pa),#[.slice nt.a nt.n.ms.length nt.c]] 1 kj 0 _ rfl) kj) ?_
  refine Qaa (.bool true) 17 rfl kj (Qai (u:=.bool ((nt.n.nm != 0))) kj (congrArg Value.bool (bne_iff_ne.2 (ent▸h1)))) ?_
  refine Qaa (.bool true) 18 rfl kj kj ?_
  refine Qad 19 rfl kj ?_
  refine Qad 20 rfl kj ?_
  refine Qad 21 rfl kj ?_
  refine Qad 22 rfl kj ?_
  refine Qaa (.bool true) 23 rfl kj kj ?_
  refine Qae ?_
  refine hK5 _ _ ?_
  refine cond_true kj ?_
  refine wp_seq_k fun K6 hK6=>?_
  refine Qab ?_
  refine Qaa (.bool false) 6 rfl kj kj ?_
  refine Qae ?_
  refine hK6 _ _ ?_
  refine wp_ret ?_
  repeat (first | with_reducible refine goR1 ?_ | with_reducible refine goR2 ?_)
  exact (show bodyPost _ _ _ .ret _ _ from ret1 (.bool false) rfl (Qam kj) ⟨congrArg (fun z=>Ending.returned (.bool z)) (Qgo h h1).symm,x2⟩)
set_option maxRecDepth 100000 in
theorem QjS (ts : List NdV) (a_t:Option Addr) (c_t B1:Nat) (w:World) (ht:TrAt B1 w a_t ts) (L:Nat) (hL:leaves ((ts.length:Nat):Int)=((L:Nat):Int)) (hlen:ts.length+1=2*L) (hTr:Qax ((L:Nat):Int)=true) (hmt:∀ i,i<ts.length→(ndi ts i).n.ms.length≤1000000) (htl:ts.length≤100000) (x:Nat) (hx:x<ts.length) (h:x%2≠0) (h1:(ndi ts x).n.nm=0) (h2:(ndi ts x).n.sg≠List.replicate 32 0):Calls Tryd.prog 42 #[.slice a_t ts.length c_t,.int .i64 ((x:Nat):Int),.int .i64 ((L:Nat):Int)] w (Ret w (.bool (Qbj ts ((L:Nat):Int) x))):=by
  have hxn:Qau ((x:Nat):Int) ((L:Nat):Int)=true:=Qbb hTr (by omega)
  refine enter 113 [(0,.slice a_t ts.length c_t),(1,.int .i64 ((x:Nat):Int)),(2,.int .i64 ((L:Nat):Int))] Tryd.func42 rfl rfl kj rfl ?_
  refine wp_seq_k fun K1 hK1=>?_
  refine Qab ?_
  refine Qaa (.bool false) 6 rfl kj kj ?_
  refine Qae ?_
  refine hK1 _ _ ?_
  refine wp_seq_k fun K2 hK2=>?_
  refine Qab ?_
  refine Qaa (.slice a_t ts.length c_t) 11 rfl kj kj ?_
  refine Qaa (.int .i64 ((x:Nat):Int)) 12 rfl kj kj ?_
  obtain ⟨gtT,otT,hat,hnts⟩:=TrAt.ext ht (Rely.Ext.refl w)
  have hnt:=hnts x (by omega)
  obtain ⟨nt,ent⟩:∃ z,z=ndi ts x:=⟨_,rfl⟩
  rw [←ent] at hnt
  have okt:=hnt.ok
  have rdt:=hnt.rd
  refine Qaa (.pointer (some ⟨gtT,otT+x*99,none⟩)) 13 rfl kj (Qao 23 _ _ .i64 x gtT otT ts.length c_t 41 99 a_t (hat (by omega)) rfl kj kj kj kj (by omega)) ?_
  refine Qaa (.agg (cat [#[.bool nt.n.us],#[.int .i64 nt.n.nm],ints .u8 (nt.n.key),ints .u8 (nt.n.sg),ints .u8 (nt.n.pa),#[.slice nt.a nt.n.ms.length nt.c]])) 14 rfl kj (QaH 41 _ gtT (otT+x*99) nt hnt rfl kj kj kj) ?_
  refine Qap (cat [#[.bool false],#[.int .i64 0],ints .u8 (List.replicate 32 0),ints .u8 (List.replicate 32 0),ints .u8 (List.replicate 32 0),#[.slice none 0 0]]) 41 7 rfl kj kj fun g3 W1 l3 e1 r3_1=>?_
  have x1:Ext w W1:=Ext.tr (Rely.Ext.refl w) e1
  have b3:w.heap.size≤g3:=qT (Rely.Ext.refl w).size l3
  refine Qa5 g3 _ (cat [#[.bool nt.n.us],#[.int .i64 nt.n.nm],ints .u8 (nt.n.key),ints .u8 (nt.n.sg),ints .u8 (nt.n.pa),#[.slice nt.a nt.n.ms.length nt.c]]) 41 r3_1 rfl kj (QaE 41 _ _ g3 41 _ _ r3_1 rfl kj kj (isz (n:=99) kj (by rw [Qac,Qac,Qac,Qac,Qac,Qac]; simp only [qS,cat,((Qaf _ _).trans okt.gl),((Qaf _ _).trans okt.kl),((Qaf _ _).trans okt.pl)]; rfl)) (eqsz (n:=99) (by rw [Qac,Qac,Qac,Qac,Qac,Qac]; simp only [qS,cat,((Qaf _ _).trans (qZ (n:=32)))]; rfl) (by rw [Qac,Qac,Qac,Qac,Qac,Qac]; simp only [qS,cat,((Qaf _ _).trans okt.gl),((Qaf _ _).trans okt.kl),((Qaf _ _).trans okt.pl)]; rfl)) (Qbt _ (by intro a ha; simp only [List.mem_cons,List.not_mem_nil,or_false] at ha; rcases ha with rfl | rfl | rfl | rfl | rfl | rfl; exact (Qa2 _ rfl); exact (Qa2 _ rfl); exact (Qa3 _ _); exact (Qa3 _ _); exact (Qa3 _ _); exact (Qa2 _ rfl)))) fun W2 p2 r3_2=>?_
  have x2:Ext w W2:=Puts.ext p2 x1 b3
  refine Qae ?_
  refine hK2 _ _ ?_
  refine wp_seq_k fun K4 hK4=>?_
  refine wp_seq_k fun K5 hK5=>?_
  refine Qab ?_
  refine Qaa (.pointer (some ⟨g3,1,none⟩)) 15 rfl kj kj ?_
  refine Qaa (.int .i64 nt.n.nm) 16 rfl kj (Qag 3 _ g3 1 41 _ (.int .i64 nt.n.nm) _ r3_2 rfl kj (Qak [#[.bool nt.n.us]] [#[.int .i64 nt.n.nm]] [ints .u8 (nt.n.key),ints .u8 (nt.n.sg),ints .u8 (nt.n.pa),#[.slice nt.a nt.n.ms.length nt.c]] 1 kj 0 _ rfl) kj) ?_
  refine Qaa (.bool false) 17 rfl kj (Qai (u:=.bool ((nt.n.nm != 0))) kj (congrArg Value.bool (bne_eq_false_iff_eq.2 (ent▸h1)))) ?_
  refine Qaa (.bool false) 18 rfl kj kj ?_
  refine Qaa (.pointer (some ⟨g3,34,none⟩)) 19 rfl kj kj ?_
  refine Qaa (.agg (ints .u8 (nt.n.sg))) 20 rfl kj (Qaq 38 _ g3 34 41 _ _ _ r3_2 rfl kj (Qak [#[.bool nt.n.us],#[.int .i64 nt.n.nm],ints .u8 (nt.n.key)] [ints .u8 (nt.n.sg)] [ints .u8 (nt.n.pa),#[.slice nt.a nt.n.ms.length nt.c]] 34 (by rw [Qac,Qac,Qac]; simp only [qS,cat,((Qaf _ _).trans okt.kl)]; rfl)) kj (isz (n:=32) kj ((Qaf _ _).trans okt.gl))) ?_
  refine Qaa (.agg (ints .u8 (List.replicate 32 0))) 21 rfl kj kj ?_
  refine Qaa (.bool true) 22 rfl kj (QaF 38 _ _ _ _ _ (.bool true) rfl kj kj kj (QaY 38 (e:=5) (k:=.u8) (nt.n.sg) (List.replicate 32 0) (decide_eq_false (ent▸h2)) okt.gl (qZ (n:=32)) kj kj kj _)) ?_
  refine Qaa (.bool true) 23 rfl kj kj ?_
  refine Qae ?_
  refine hK5 _ _ ?_
  refine cond_true kj ?_
  refine wp_seq_k fun K6 hK6=>?_
  refine Qab ?_
  refine Qaa (.bool false) 6 rfl kj kj ?_
  refine Qae ?_
  refine hK6 _ _ ?_
  refine wp_ret ?_
  repeat (first | with_reducible refine goR1 ?_ | with_reducible refine goR2 ?_)
  exact (show bodyPost _ _ _ .ret _ _ from ret1 (.bool false) rfl (Qam kj) ⟨congrArg (fun z=>Ending.returned (.bool z)) (Qgn h h2).symm,x2⟩)
set_option maxRecDepth 100000 in
theorem QjR (ts : List NdV) (a_t:Option Addr) (c_t B1:Nat) (w:World) (ht:TrAt B1 w a_t ts) (L:Nat) (hL:leaves ((ts.length:Nat):Int)=((L:Nat):Int)) (hlen:ts.length+1=2*L) (hTr:Qax ((L:Nat):Int)=true) (hmt:∀ i,i<ts.length→(ndi ts i).n.ms.length≤1000000) (htl:ts.length≤100000) (x:Nat) (hx:x<ts.length) (h:x%2≠0) (h1:(ndi ts x).n.nm=0) (h2:(ndi ts x).n.sg=List.replicate 32 0):Calls Tryd.prog 42 #[.slice a_t ts.length c_t,.int .i64 ((x:Nat):Int),.int .i64 ((L:Nat):Int)] w (Ret w (.bool (Qbj ts ((L:Nat):Int) x))):=by
 have hxn:Qau ((x:Nat):Int) ((L:Nat):Int)=true:=Qbb hTr (by omega)
 refine enter 113 [(0,.slice a_t ts.length c_t),(1,.int .i64 ((x:Nat):Int)),(2,.int .i64 ((L:Nat):Int))] Tryd.func42 rfl rfl kj rfl ?_
 refine wp_seq_k fun K1 hK1=>?_
 refine Qab ?_
 refine Qaa (.bool false) 6 rfl kj kj ?_
 refine Qae ?_
 refine hK1 _ _ ?_
 refine wp_seq_k fun K2 hK2=>?_
 refine Qab ?_
 refine Qaa (.slice a_t ts.length c_t) 11 rfl kj kj ?_
 refine Qaa (.int .i64 ((x:Nat):Int)) 12 rfl kj kj ?_
 obtain ⟨gtT,otT,hat,hnts⟩:=TrAt.ext ht (Rely.Ext.refl w)
 have hnt:=hnts x (by omega)
 obtain ⟨nt,ent⟩:∃ z,z=ndi ts x:=⟨_,rfl⟩
 rw [←ent] at hnt
 have okt:=hnt.ok
 have rdt:=hnt.rd
 refine Qaa (.pointer (some ⟨gtT,otT+x*99,none⟩)) 13 rfl kj (Qao 23 _ _ .i64 x gtT otT ts.length c_t 41 99 a_t (hat (by omega)) rfl kj kj kj kj (by omega)) ?_
 refine Qaa (.agg (cat [#[.bool nt.n.us],#[.int .i64 nt.n.nm],ints .u8 (nt.n.key),ints .u8 (nt.n.sg),ints .u8 (nt.n.pa),#[.slice nt.a nt.n.ms.length nt.c]])) 14 rfl kj (QaH 41 _ gtT (otT+x*99) nt hnt rfl kj kj kj) ?_
 refine Qap (cat [#[.bool false],#[.int .i64 0],ints .u8 (List.replicate 32 0),ints .u8 (List.replicate 32 0),ints .u8 (List.replicate 32 0),#[.slice none 0 0]]) 41 7 rfl kj kj fun g3 W1 l3 e1 r3_1=>?_
 have x1:Ext w W1:=Ext.tr (Rely.Ext.refl w) e1
 have b3:w.heap.size≤g3:=qT (Rely.Ext.refl w).size l3
 refine Qa5 g3 _ (cat [#[.bool nt.n.us],#[.int .i64 nt.n.nm],ints .u8 (nt.n.key),ints .u8 (nt.n.sg),ints .u8 (nt.n.pa),#[.slice nt.a nt.n.ms.length nt.c]]) 41 r3_1 rfl kj (QaE 41 _ _ g3 41 _ _ r3_1 rfl kj kj (isz (n:=99) kj (by rw [Qac,Qac,Qac,Qac,Qac,Qac]; simp only [qS,cat,((Qaf _ _).trans okt.gl),((Qaf _ _).trans okt.kl),((Qaf _ _).trans okt.pl)]; rfl)) (eqsz (n:=99) (by rw [Qac,Qac,Qac,Qac,Qac,Qac]; simp only [qS,cat,((Qaf _ _).trans (qZ (n:=32)))]; rfl) (by rw [Qac,Qac,Qac,Qac,Qac,Qac]; simp only [qS,cat,((Qaf _ _).trans okt.gl),((Qaf _ _).trans okt.kl),((Qaf _ _).trans okt.pl)]; rfl)) (Qbt _ (by intro a ha; simp only [List.mem_cons,List.not_mem_nil,or_false] at ha; rcases ha with rfl | rfl | rfl | rfl | rfl | rfl; exact (Qa2 _ rfl); exact (Qa2 _ rfl); exact (Qa3 _ _); exact (Qa3 _ _); exact (Qa3 _ _); exact (Qa2 _ rfl)))) fun W2 p2 r3_2=>?_
 have x2:Ext w W2:=Puts.ext p2 x1 b3
 refine Qae ?_
 refine hK2 _ _ ?_
 refine wp_seq_k fun K4 hK4=>?_
 refine wp_seq_k fun K5 hK5=>?_
 refine Qab ?_
 refine Qaa (.pointer (some ⟨g3,1,none⟩)) 15 rfl kj kj ?_
 refine Qaa (.int .i64 nt.n.nm) 16 rfl kj (Qag 3 _ g3 1 41 _ (.int .i64 nt.n.nm) _ r3_2 rfl kj (Qak [#[.bool nt.n.us]] [#[.int .i64 nt.n.nm]] [ints .u8 (nt.n.key),ints .u8 (nt.n.sg),ints .u8 (nt.n.pa),#[.slice nt.a nt.n.ms.length nt.c]] 1 kj 0 _ rfl) kj) ?_
 refine Qaa (.bool false) 17 rfl kj (Qai (u:=.bool ((nt.n.nm != 0))) kj (congrArg Value.bool (bne_eq_false_iff_eq.2 (ent▸h1)))) ?_
 refine Qaa (.bool false) 18 rfl kj kj ?_
 refine Qaa (.pointer (some ⟨g3,34,none⟩)) 19 rfl kj kj ?_
 refine Qaa (.agg (ints .u8 (nt.n.sg))) 20 rfl kj (Qaq 38 _ g3 34 41 _ _ _ r3_2 rfl kj (Qak [#[.bool nt.n.us],#[.int .i64 nt.n.nm],ints .u8 (nt.n.key)] [ints .u8 (nt.n.sg)] [ints .u8 (nt.n.pa),#[.slice nt.a nt.n.ms.length nt.c]] 34 (by rw [Qac,Qac,Qac]; simp only [qS,cat,((Qaf _ _).trans okt.kl)]; rfl)) kj (isz (n:=32) kj ((Qaf _ _).trans okt.gl))) ?_
 refine Qaa (.agg (ints .u8 (List.replicate 32 0))) 21 rfl kj kj ?_
 refine Qaa (.bool false) 22 rfl kj (QaF 38 _ _ _ _ _ (.bool false) rfl kj kj kj (QaY 38 (e:=5) (k:=.u8) (nt.n.sg) (List.replicate 32 0) (decide_eq_true (ent▸h2)) okt.gl (qZ (n:=32)) kj kj kj _)) ?_
 refine Qaa (.bool false) 23 rfl kj kj ?_
 refine Qae ?_
 refine hK5 _ _ ?_
 refine cond_false kj ?_
 refine wp_skip ?_
 refine hK4 _ _ ?_
 refine wp_seq_k fun K6 hK6=>?_
 refine wp_seq_k fun K7 hK7=>?_
 refine Qab ?_
 refine Qaa (.int .i64 0) 8 rfl kj kj ?_
 refine Qae ?_
 refine hK7 _ _ ?_
 refine wp_block ?_
 have hml:nt.n.ms.length≤1000000:=ent▸hmt x hx
 refine Qaz (fun (s1:Nat)=>[(0,.slice a_t ts.length c_t),(1,.int .i64 ((x:Nat):Int)),(2,.int .i64 ((L:Nat):Int)),(7,.pointer (some ⟨g3,0,none⟩)),(8,.int .i64 ((s1:Nat):Int))]) (fun (s1:Nat) W=>(s1≤nt.n.ms.length)∧(∀ j,j<s1→msOk ts ((L:Nat):Int) ((x:Nat):Int) nt.n.ms j=true)∧(Ext W2 W)∧(Ext w W)) (fun (s1:Nat)=>nt.n.ms.length-s1) 0 ⟨rfl,rfl,rfl,rfl,rfl,trivial⟩ ⟨(Nat.zero_le _),(fun j hj=>absurd hj (Nat.not_lt_zero j)),(Rely.Ext.refl W2),x2⟩ fun s1 X1 V1 hI1=>?_
 obtain ⟨k,hs1⟩:∃ z,z=s1:=⟨_,rfl⟩
 subst hs1
 obtain ⟨hk,hall,kk1,xx1⟩:=hI1
 replace hk:k≤nt.n.ms.length:=hk
 replace hall:∀ j,j<k→msOk ts ((L:Nat):Int) ((x:Nat):Int) nt.n.ms j=true:=hall
 replace kk1:Ext W2 V1:=kk1
 replace xx1:Ext w V1:=xx1
 have e3:=kk1
 refine wp_seq_k fun K8 hK8=>?_
 refine wp_seq_k fun K9 hK9=>?_
 refine Qab ?_
 refine Qaa (.int .i64 ((k:Nat):Int)) 24 rfl kj kj ?_
 refine Qaa (.pointer (some ⟨g3,98,none⟩)) 25 rfl kj kj ?_
 have r3_3:=(Qah r3_2 e3)
 refine Qaa (.slice nt.a nt.n.ms.length nt.c) 26 rfl kj (Qag 36 _ g3 98 41 _ (.slice nt.a nt.n.ms.length nt.c) _ r3_3 rfl kj (Qak [#[.bool nt.n.us],#[.int .i64 nt.n.nm],ints .u8 (nt.n.key),ints .u8 (nt.n.sg),ints .u8 (nt.n.pa)] [#[.slice nt.a nt.n.ms.length nt.c]] [] 98 (by rw [Qac,Qac,Qac,Qac,Qac]; simp only [qS,cat,((Qaf _ _).trans okt.gl),((Qaf _ _).trans okt.kl),((Qaf _ _).trans okt.pl)]; rfl) 0 _ rfl) kj) ?_
 refine Qaa (.int .i64 ((nt.n.ms.length:Nat):Int)) 27 rfl kj kj ?_
 refine Qaa (.bool (decide (((k:Nat):Int)<((nt.n.ms.length:Nat):Int)))) 28 rfl kj kj ?_
 refine Qae ?_
 refine hK9 _ _ ?_
 refine Qat (t:=decide (((k:Nat):Int)<((nt.n.ms.length:Nat):Int))) kj (fun c10=>?_) (fun c10=>?_)
 ·skip
  have hlt28:k<nt.n.ms.length:=by have:=of_decide_eq_true c10; omega
  have y0_1:Ext w W1:=(Rely.Ext.trans (Rely.Ext.refl w) e1)
  have y0_2:Ext w W2:=(Puts.ext p2 y0_1 l3)
  have y0_3:Ext w V1:=(Rely.Ext.trans y0_2 e3)
  have hnx_11:(nt.n.ms).length=nt.n.ms.length:=rfl
  obtain ⟨gcx_11,ocx_11,hax_11,hlx_11,hcx_11⟩:=QaZ (RdK.here (RdK.ext rdt y0_3)) (by rw [hnx_11]; omega)
  refine wp_skip ?_
  refine hK8 _ _ ?_
  refine wp_seq_k fun K12 hK12=>?_
  refine wp_block ?_
  refine wp_seq_k fun K13 hK13=>?_
  refine Qab ?_
  refine Qaa (.pointer (some ⟨g3,98,none⟩)) 31 rfl kj kj ?_
  refine Qaa (.slice nt.a nt.n.ms.length nt.c) 32 rfl kj (Qag 36 _ g3 98 41 _ (.slice nt.a nt.n.ms.length nt.c) _ r3_3 rfl kj (Qak [#[.bool nt.n.us],#[.int .i64 nt.n.nm],ints .u8 (nt.n.key),ints .u8 (nt.n.sg),ints .u8 (nt.n.pa)] [#[.slice nt.a nt.n.ms.length nt.c]] [] 98 (by rw [Qac,Qac,Qac,Qac,Qac]; simp only [qS,cat,((Qaf _ _).trans okt.gl),((Qaf _ _).trans okt.kl),((Qaf _ _).trans okt.pl)]; rfl) 0 _ rfl) kj) ?_
  refine Qaa (.int .i64 ((k:Nat):Int)) 33 rfl kj kj ?_
  refine Qaa (.pointer (some ⟨gcx_11,ocx_11+k,none⟩)) 34 rfl kj (QaA 36 _ _ .i64 k gcx_11 ocx_11 nt.n.ms.length nt.c 3 nt.a _ hax_11 rfl rfl kj kj kj kj (Nat.lt_of_lt_of_eq (show k<nt.n.ms.length by omega) hnx_11.symm)) ?_
  refine Qaa (.int .i64 (nth (nt.n.ms) (k))) 35 rfl kj (Qaj 3 _ _ (.int .i64 (nth (nt.n.ms) (k))) (hcx_11 k (Nat.lt_of_lt_of_eq (show k<nt.n.ms.length by omega) hnx_11.symm)) rfl kj kj) ?_
  refine Qaa (.int .i64 (nth (nt.n.ms) (k))) 9 rfl kj kj ?_
  refine Qae ?_
  refine hK13 _ _ ?_
  refine wp_seq_k fun K14 hK14=>?_
  refine wp_seq_k fun K15 hK15=>?_
  have hbn:=Qcg hxn
  have hQ0:(nth nt.n.ms k<0)∨(nth nt.n.ms k≥0∧((L:Nat):Int)≤nth nt.n.ms k)∨((nth nt.n.ms k≥0∧nth nt.n.ms k<((L:Nat):Int))∧0<k∧nth nt.n.ms k≤nth nt.n.ms (k-1))∨((nth nt.n.ms k≥0∧nth nt.n.ms k<((L:Nat):Int))∧(k=0)∧(ndi ts (2*(nth nt.n.ms k).toNat)).n.us=false)∨((nth nt.n.ms k≥0∧nth nt.n.ms k<((L:Nat):Int))∧(0<k∧nth nt.n.ms (k-1)<nth nt.n.ms k)∧(ndi ts (2*(nth nt.n.ms k).toNat)).n.us=false)∨((nth nt.n.ms k≥0∧nth nt.n.ms k<((L:Nat):Int))∧(k=0)∧(ndi ts (2*(nth nt.n.ms k).toNat)).n.us=true∧abv ((x:Nat):Int) (2*nth nt.n.ms k) ((L:Nat):Int)=false)∨((nth nt.n.ms k≥0∧nth nt.n.ms k<((L:Nat):Int))∧(0<k∧nth nt.n.ms (k-1)<nth nt.n.ms k)∧(ndi ts (2*(nth nt.n.ms k).toNat)).n.us=true∧abv ((x:Nat):Int) (2*nth nt.n.ms k) ((L:Nat):Int)=false)∨((nth nt.n.ms k≥0∧nth nt.n.ms k<((L:Nat):Int))∧(k=0)∧(ndi ts (2*(nth nt.n.ms k).toNat)).n.us=true∧abv ((x:Nat):Int) (2*nth nt.n.ms k) ((L:Nat):Int)=true)∨((nth nt.n.ms k≥0∧nth nt.n.ms k<((L:Nat):Int))∧(0<k∧nth nt.n.ms (k-1)<nth nt.n.ms k)∧(ndi ts (2*(nth nt.n.ms k).toNat)).n.us=true∧abv ((x:Nat):Int) (2*nth nt.n.ms k) ((L:Nat):Int)=true):=QlC _ _ _ _ _ _
  rcases hQ0 with hQ | hQ | ⟨hR,hQ⟩ | ⟨hR,hQ⟩ | ⟨hR,hQ⟩ | ⟨hR,hQ⟩ | ⟨hR,hQ⟩ | ⟨hR,hQ⟩ | ⟨hR,hQ⟩
  ·skip
   have hb:msOk ts ((L:Nat):Int) ((x:Nat):Int) nt.n.ms k=false:=by unfold msOk; rw [Qfm (by omega),Bool.and_false]
   refine Qab ?_
   refine Qaa (.int .i64 (nth (nt.n.ms) (k))) 36 rfl kj kj ?_
   refine Qaa (.bool true) 37 rfl kj (Qai (u:=.bool (decide ((nth (nt.n.ms) (k))<0))) kj (congrArg Value.bool (decide_eq_true (by omega)))) ?_
   refine Qaa (.bool true) 38 rfl kj kj ?_
   refine Qad 39 rfl kj ?_
   refine Qad 40 rfl kj ?_
   refine Qad 41 rfl kj ?_
   refine Qaa (.bool true) 42 rfl kj kj ?_
   refine Qaa (.bool true) 43 rfl kj kj ?_
   refine Qad 44 rfl kj ?_
   refine Qad 45 rfl kj ?_
   refine Qad 46 rfl kj ?_
   refine Qad 47 rfl kj ?_
   refine Qad 48 rfl kj ?_
   refine Qad 49 rfl kj ?_
   refine Qad 50 rfl kj ?_
   refine Qad 51 rfl kj ?_
   refine Qad 52 rfl kj ?_
   refine Qad 53 rfl kj ?_
   refine Qad 54 rfl kj ?_
   refine Qad 55 rfl kj ?_
   refine Qaa (.bool true) 56 rfl kj kj ?_
   refine Qaa (.bool true) 57 rfl kj kj ?_
   refine Qad 58 rfl kj ?_
   refine Qad 59 rfl kj ?_
   refine Qad 60 rfl kj ?_
   refine Qad 61 rfl kj ?_
   refine Qad 62 rfl kj ?_
   refine Qad 63 rfl kj ?_
   refine Qad 64 rfl kj ?_
   refine Qaa (.bool true) 65 rfl kj kj ?_
   refine Qaa (.bool true) 66 rfl kj kj ?_
   refine Qad 67 rfl kj ?_
   refine Qad 68 rfl kj ?_
   refine Qad 69 rfl kj ?_
   refine Qad 70 rfl kj ?_
   refine Qad 71 rfl kj ?_
   refine Qad 72 rfl kj ?_
   refine Qaa (.bool true) 73 rfl kj kj ?_
   refine Qae ?_
   refine hK15 _ _ ?_
   refine cond_true kj ?_
   refine wp_seq_k fun K16 hK16=>?_
   refine Qab ?_
   refine Qaa (.bool false) 6 rfl kj kj ?_
   refine Qae ?_
   refine hK16 _ _ ?_
   refine wp_ret ?_
   repeat (first | with_reducible refine goR1 ?_ | with_reducible refine goR2 ?_)
   exact (show bodyPost _ _ _ .ret _ _ from ret1 (.bool false) rfl (Qam kj) ⟨congrArg (fun z=>Ending.returned (.bool z)) ((Qbi h h1 h2).trans (QcP (k:=k) (by rw [←ent]; exact hlt28) (by rw [←ent]; exact hb))).symm,xx1⟩)
  ·skip
   have hb:msOk ts ((L:Nat):Int) ((x:Nat):Int) nt.n.ms k=false:=by unfold msOk; rw [Qez (by omega),Bool.and_false]
   refine Qab ?_
   refine Qaa (.int .i64 (nth (nt.n.ms) (k))) 36 rfl kj kj ?_
   refine Qaa (.bool false) 37 rfl kj (Qai (u:=.bool (decide ((nth (nt.n.ms) (k))<0))) kj (congrArg Value.bool (decide_eq_false (by omega)))) ?_
   refine Qaa (.bool false) 38 rfl kj kj ?_
   refine Qaa (.int .i64 (nth (nt.n.ms) (k))) 39 rfl kj kj ?_
   refine Qaa (.int .i64 ((L:Nat):Int)) 40 rfl kj kj ?_
   refine Qaa (.bool true) 41 rfl kj (Qai (u:=.bool (decide ((nth (nt.n.ms) (k))≥((L:Nat):Int)))) kj (congrArg Value.bool (decide_eq_true (by omega)))) ?_
   refine Qaa (.bool true) 42 rfl kj kj ?_
   refine Qaa (.bool true) 43 rfl kj kj ?_
   refine Qad 44 rfl kj ?_
   refine Qad 45 rfl kj ?_
   refine Qad 46 rfl kj ?_
   refine Qad 47 rfl kj ?_
   refine Qad 48 rfl kj ?_
   refine Qad 49 rfl kj ?_
   refine Qad 50 rfl kj ?_
   refine Qad 51 rfl kj ?_
   refine Qad 52 rfl kj ?_
   refine Qad 53 rfl kj ?_
   refine Qad 54 rfl kj ?_
   refine Qad 55 rfl kj ?_
   refine Qaa (.bool true) 56 rfl kj kj ?_
   refine Qaa (.bool true) 57 rfl kj kj ?_
   refine Qad 58 rfl kj ?_
   refine Qad 59 rfl kj ?_
   refine Qad 60 rfl kj ?_
   refine Qad 61 rfl kj ?_
   refine Qad 62 rfl kj ?_
   refine Qad 63 rfl kj ?_
   refine Qad 64 rfl kj ?_
   refine Qaa (.bool true) 65 rfl kj kj ?_
   refine Qaa (.bool true) 66 rfl kj kj ?_
   refine Qad 67 rfl kj ?_
   refine Qad 68 rfl kj ?_
   refine Qad 69 rfl kj ?_
   refine Qad 70 rfl kj ?_
   refine Qad 71 rfl kj ?_
   refine Qad 72 rfl kj ?_
   refine Qaa (.bool true) 73 rfl kj kj ?_
   refine Qae ?_
   refine hK15 _ _ ?_
   refine cond_true kj ?_
   refine wp_seq_k fun K17 hK17=>?_
   refine Qab ?_
   refine Qaa (.bool false) 6 rfl kj kj ?_
   refine Qae ?_
   refine hK17 _ _ ?_
   refine wp_ret ?_
   repeat (first | with_reducible refine goR1 ?_ | with_reducible refine goR2 ?_)
   exact (show bodyPost _ _ _ .ret _ _ from ret1 (.bool false) rfl (Qam kj) ⟨congrArg (fun z=>Ending.returned (.bool z)) ((Qbi h h1 h2).trans (QcP (k:=k) (by rw [←ent]; exact hlt28) (by rw [←ent]; exact hb))).symm,xx1⟩)
  ·skip
   have hb:msOk ts ((L:Nat):Int) ((x:Nat):Int) nt.n.ms k=false:=by unfold msOk; rw [beq_eq_false_iff_ne.2 (by omega),decide_eq_false (by omega)]; rfl
   refine Qab ?_
   refine Qaa (.int .i64 (nth (nt.n.ms) (k))) 36 rfl kj kj ?_
   refine Qaa (.bool false) 37 rfl kj (Qai (u:=.bool (decide ((nth (nt.n.ms) (k))<0))) kj (congrArg Value.bool (decide_eq_false (by omega)))) ?_
   refine Qaa (.bool false) 38 rfl kj kj ?_
   refine Qaa (.int .i64 (nth (nt.n.ms) (k))) 39 rfl kj kj ?_
   refine Qaa (.int .i64 ((L:Nat):Int)) 40 rfl kj kj ?_
   refine Qaa (.bool false) 41 rfl kj (Qai (u:=.bool (decide ((nth (nt.n.ms) (k))≥((L:Nat):Int)))) kj (congrArg Value.bool (decide_eq_false (by omega)))) ?_
   refine Qaa (.bool false) 42 rfl kj kj ?_
   refine Qaa (.bool false) 43 rfl kj kj ?_
   refine Qaa (.int .i64 ((k:Nat):Int)) 44 rfl kj kj ?_
   refine Qaa (.bool true) 45 rfl kj (Qai (u:=.bool (decide (((k:Nat):Int)>0))) kj (congrArg Value.bool (decide_eq_true (by omega)))) ?_
   refine Qaa (.bool true) 46 rfl kj kj ?_
   refine Qaa (.int .i64 (nth (nt.n.ms) (k))) 47 rfl kj kj ?_
   refine Qaa (.pointer (some ⟨g3,98,none⟩)) 48 rfl kj kj ?_
   refine Qaa (.slice nt.a nt.n.ms.length nt.c) 49 rfl kj (Qag 36 _ g3 98 41 _ (.slice nt.a nt.n.ms.length nt.c) _ r3_3 rfl kj (Qak [#[.bool nt.n.us],#[.int .i64 nt.n.nm],ints .u8 (nt.n.key),ints .u8 (nt.n.sg),ints .u8 (nt.n.pa)] [#[.slice nt.a nt.n.ms.length nt.c]] [] 98 (by rw [Qac,Qac,Qac,Qac,Qac]; simp only [qS,cat,((Qaf _ _).trans okt.gl),((Qaf _ _).trans okt.kl),((Qaf _ _).trans okt.pl)]; rfl) 0 _ rfl) kj) ?_
   refine Qaa (.int .i64 ((k:Nat):Int)) 50 rfl kj kj ?_
   refine Qaa (.int .i64 ((k-1:Nat):Int)) 51 rfl kj (Qai (u:=.int .i64 (IntKind.i64.wrap (((k:Nat):Int)-1))) kj (congrArg (Value.int .i64) (i64n _ _ (by omega) (by omega)))) ?_
   refine Qaa (.pointer (some ⟨gcx_11,ocx_11+(k-1),none⟩)) 52 rfl kj (QaA 36 _ _ .i64 (k-1) gcx_11 ocx_11 nt.n.ms.length nt.c 3 nt.a _ hax_11 rfl rfl kj kj kj kj (Nat.lt_of_lt_of_eq (show k-1<nt.n.ms.length by omega) hnx_11.symm)) ?_
   refine Qaa (.int .i64 (nth (nt.n.ms) ((k-1)))) 53 rfl kj (Qaj 3 _ _ (.int .i64 (nth (nt.n.ms) ((k-1)))) (hcx_11 (k-1) (Nat.lt_of_lt_of_eq (show k-1<nt.n.ms.length by omega) hnx_11.symm)) rfl kj kj) ?_
   refine Qaa (.bool true) 54 rfl kj (Qai (u:=.bool (decide ((nth (nt.n.ms) (k))≤(nth (nt.n.ms) ((k-1)))))) kj (congrArg Value.bool (decide_eq_true (by omega)))) ?_
   refine Qaa (.bool true) 55 rfl kj kj ?_
   refine Qaa (.bool true) 56 rfl kj kj ?_
   refine Qaa (.bool true) 57 rfl kj kj ?_
   refine Qad 58 rfl kj ?_
   refine Qad 59 rfl kj ?_
   refine Qad 60 rfl kj ?_
   refine Qad 61 rfl kj ?_
   refine Qad 62 rfl kj ?_
   refine Qad 63 rfl kj ?_
   refine Qad 64 rfl kj ?_
   refine Qaa (.bool true) 65 rfl kj kj ?_
   refine Qaa (.bool true) 66 rfl kj kj ?_
   refine Qad 67 rfl kj ?_
   refine Qad 68 rfl kj ?_
   refine Qad 69 rfl kj ?_
   refine Qad 70 rfl kj ?_
   refine Qad 71 rfl kj ?_
   refine Qad 72 rfl kj ?_
   refine Qaa (.bool true) 73 rfl kj kj ?_
   refine Qae ?_
   refine hK15 _ _ ?_
   refine cond_true kj ?_
   refine wp_seq_k fun K18 hK18=>?_
   refine Qab ?_
   refine Qaa (.bool false) 6 rfl kj kj ?_
   refine Qae ?_
   refine hK18 _ _ ?_
   refine wp_ret ?_
   repeat (first | with_reducible refine goR1 ?_ | with_reducible refine goR2 ?_)
   exact (show bodyPost _ _ _ .ret _ _ from ret1 (.bool false) rfl (Qam kj) ⟨congrArg (fun z=>Ending.returned (.bool z)) ((Qbi h h1 h2).trans (QcP (k:=k) (by rw [←ent]; exact hlt28) (by rw [←ent]; exact hb))).symm,xx1⟩)
  ·skip
   obtain ⟨m,hm⟩:∃ m:Nat,nth nt.n.ms k=((m:Nat):Int):=⟨(nth nt.n.ms k).toNat,by omega⟩
   have hml2:m<L:=by omega
   have hb0:msOk ts ((L:Nat):Int) ((x:Nat):Int) nt.n.ms k=Qbd ts ((L:Nat):Int) ((x:Nat):Int) ((m:Nat):Int):=by unfold msOk; rw [hm,hQ.1]; rfl
   obtain ⟨gzT,ozT,haz,hnzs⟩:=TrAt.ext ht xx1
   have hnz:=hnzs (2*m) (by omega)
   obtain ⟨nz,enz⟩:∃ z,z=ndi ts (2*m):=⟨_,rfl⟩
   rw [←enz] at hnz
   have okz:=hnz.ok
   have rdz:=hnz.rd
   have hzu:nz.n.us=false:=by rw [enz]; have h9:=hQ.2; rw [hm] at h9; exact h9
   have hb:msOk ts ((L:Nat):Int) ((x:Nat):Int) nt.n.ms k=false:=hb0.trans (QeL (enz▸hzu))
   refine Qab ?_
   refine Qaa (.int .i64 (nth (nt.n.ms) (k))) 36 rfl kj kj ?_
   refine Qaa (.bool false) 37 rfl kj (Qai (u:=.bool (decide ((nth (nt.n.ms) (k))<0))) kj (congrArg Value.bool (decide_eq_false (by omega)))) ?_
   refine Qaa (.bool false) 38 rfl kj kj ?_
   refine Qaa (.int .i64 (nth (nt.n.ms) (k))) 39 rfl kj kj ?_
   refine Qaa (.int .i64 ((L:Nat):Int)) 40 rfl kj kj ?_
   refine Qaa (.bool false) 41 rfl kj (Qai (u:=.bool (decide ((nth (nt.n.ms) (k))≥((L:Nat):Int)))) kj (congrArg Value.bool (decide_eq_false (by omega)))) ?_
   refine Qaa (.bool false) 42 rfl kj kj ?_
   refine Qaa (.bool false) 43 rfl kj kj ?_
   refine Qaa (.int .i64 ((k:Nat):Int)) 44 rfl kj kj ?_
   refine Qaa (.bool false) 45 rfl kj (Qai (u:=.bool (decide (((k:Nat):Int)>0))) kj (congrArg Value.bool (decide_eq_false (by omega)))) ?_
   refine Qaa (.bool false) 46 rfl kj kj ?_
   refine Qad 47 rfl kj ?_
   refine Qad 48 rfl kj ?_
   refine Qad 49 rfl kj ?_
   refine Qad 50 rfl kj ?_
   refine Qad 51 rfl kj ?_
   refine Qad 52 rfl kj ?_
   refine Qad 53 rfl kj ?_
   refine Qad 54 rfl kj ?_
   refine Qaa (.bool false) 55 rfl kj kj ?_
   refine Qaa (.bool false) 56 rfl kj kj ?_
   refine Qaa (.bool false) 57 rfl kj kj ?_
   refine Qaa (.slice a_t ts.length c_t) 58 rfl kj kj ?_
   refine Qaa (.int .i64 (nth (nt.n.ms) (k))) 59 rfl kj kj ?_
   refine Qaa (.int .i64 (((2*m:Nat):Int))) 60 rfl kj (Qai (u:=.int .i64 (IntKind.i64.wrap (2*(nth (nt.n.ms) (k))))) kj (congrArg (Value.int .i64) (by rw [hm]; exact ((IntWalk.i64_in _ (by omega)).trans (by omega))))) ?_
   refine Qaa (.pointer (some ⟨gzT,ozT+(2*m)*99,none⟩)) 61 rfl kj (Qao 23 _ _ .i64 (2*m) gzT ozT ts.length c_t 41 99 a_t (haz (by omega)) rfl kj kj kj kj (by omega)) ?_
   refine Qaa (.pointer (some ⟨gzT,ozT+(2*m)*99,none⟩)) 62 rfl kj kj ?_
   refine Qaa (.bool false) 63 rfl kj (Qaj 4 _ _ (.bool false) ((NdAt.at3 hnz).1.trans (congrArg (fun z=>some (Value.bool z)) hzu)) rfl kj kj) ?_
   refine Qaa (.bool true) 64 rfl kj kj ?_
   refine Qaa (.bool true) 65 rfl kj kj ?_
   refine Qaa (.bool true) 66 rfl kj kj ?_
   refine Qad 67 rfl kj ?_
   refine Qad 68 rfl kj ?_
   refine Qad 69 rfl kj ?_
   refine Qad 70 rfl kj ?_
   refine Qad 71 rfl kj ?_
   refine Qad 72 rfl kj ?_
   refine Qaa (.bool true) 73 rfl kj kj ?_
   refine Qae ?_
   refine hK15 _ _ ?_
   refine cond_true kj ?_
   refine wp_seq_k fun K19 hK19=>?_
   refine Qab ?_
   refine Qaa (.bool false) 6 rfl kj kj ?_
   refine Qae ?_
   refine hK19 _ _ ?_
   refine wp_ret ?_
   repeat (first | with_reducible refine goR1 ?_ | with_reducible refine goR2 ?_)
   exact (show bodyPost _ _ _ .ret _ _ from ret1 (.bool false) rfl (Qam kj) ⟨congrArg (fun z=>Ending.returned (.bool z)) ((Qbi h h1 h2).trans (QcP (k:=k) (by rw [←ent]; exact hlt28) (by rw [←ent]; exact hb))).symm,xx1⟩)
  ·skip
   obtain ⟨m,hm⟩:∃ m:Nat,nth nt.n.ms k=((m:Nat):Int):=⟨(nth nt.n.ms k).toNat,by omega⟩
   have hml2:m<L:=by omega
   have hb0:msOk ts ((L:Nat):Int) ((x:Nat):Int) nt.n.ms k=Qbd ts ((L:Nat):Int) ((x:Nat):Int) ((m:Nat):Int):=by unfold msOk; rw [decide_eq_true hQ.1.2,hm,Bool.or_true,Bool.true_and]
   obtain ⟨gzT,ozT,haz,hnzs⟩:=TrAt.ext ht xx1
   have hnz:=hnzs (2*m) (by omega)
   obtain ⟨nz,enz⟩:∃ z,z=ndi ts (2*m):=⟨_,rfl⟩
   rw [←enz] at hnz
   have okz:=hnz.ok
   have rdz:=hnz.rd
   have hzu:nz.n.us=false:=by rw [enz]; have h9:=hQ.2; rw [hm] at h9; exact h9
   have hb:msOk ts ((L:Nat):Int) ((x:Nat):Int) nt.n.ms k=false:=hb0.trans (QeL (enz▸hzu))
   refine Qab ?_
   refine Qaa (.int .i64 (nth (nt.n.ms) (k))) 36 rfl kj kj ?_
   refine Qaa (.bool false) 37 rfl kj (Qai (u:=.bool (decide ((nth (nt.n.ms) (k))<0))) kj (congrArg Value.bool (decide_eq_false (by omega)))) ?_
   refine Qaa (.bool false) 38 rfl kj kj ?_
   refine Qaa (.int .i64 (nth (nt.n.ms) (k))) 39 rfl kj kj ?_
   refine Qaa (.int .i64 ((L:Nat):Int)) 40 rfl kj kj ?_
   refine Qaa (.bool false) 41 rfl kj (Qai (u:=.bool (decide ((nth (nt.n.ms) (k))≥((L:Nat):Int)))) kj (congrArg Value.bool (decide_eq_false (by omega)))) ?_
   refine Qaa (.bool false) 42 rfl kj kj ?_
   refine Qaa (.bool false) 43 rfl kj kj ?_
   refine Qaa (.int .i64 ((k:Nat):Int)) 44 rfl kj kj ?_
   refine Qaa (.bool true) 45 rfl kj (Qai (u:=.bool (decide (((k:Nat):Int)>0))) kj (congrArg Value.bool (decide_eq_true (by omega)))) ?_
   refine Qaa (.bool true) 46 rfl kj kj ?_
   refine Qaa (.int .i64 (nth (nt.n.ms) (k))) 47 rfl kj kj ?_
   refine Qaa (.pointer (some ⟨g3,98,none⟩)) 48 rfl kj kj ?_
   refine Qaa (.slice nt.a nt.n.ms.length nt.c) 49 rfl kj (Qag 36 _ g3 98 41 _ (.slice nt.a nt.n.ms.length nt.c) _ r3_3 rfl kj (Qak [#[.bool nt.n.us],#[.int .i64 nt.n.nm],ints .u8 (nt.n.key),ints .u8 (nt.n.sg),ints .u8 (nt.n.pa)] [#[.slice nt.a nt.n.ms.length nt.c]] [] 98 (by rw [Qac,Qac,Qac,Qac,Qac]; simp only [qS,cat,((Qaf _ _).trans okt.gl),((Qaf _ _).trans okt.kl),((Qaf _ _).trans okt.pl)]; rfl) 0 _ rfl) kj) ?_
   refine Qaa (.int .i64 ((k:Nat):Int)) 50 rfl kj kj ?_
   refine Qaa (.int .i64 ((k-1:Nat):Int)) 51 rfl kj (Qai (u:=.int .i64 (IntKind.i64.wrap (((k:Nat):Int)-1))) kj (congrArg (Value.int .i64) (i64n _ _ (by omega) (by omega)))) ?_
   refine Qaa (.pointer (some ⟨gcx_11,ocx_11+(k-1),none⟩)) 52 rfl kj (QaA 36 _ _ .i64 (k-1) gcx_11 ocx_11 nt.n.ms.length nt.c 3 nt.a _ hax_11 rfl rfl kj kj kj kj (Nat.lt_of_lt_of_eq (show k-1<nt.n.ms.length by omega) hnx_11.symm)) ?_
   refine Qaa (.int .i64 (nth (nt.n.ms) ((k-1)))) 53 rfl kj (Qaj 3 _ _ (.int .i64 (nth (nt.n.ms) ((k-1)))) (hcx_11 (k-1) (Nat.lt_of_lt_of_eq (show k-1<nt.n.ms.length by omega) hnx_11.symm)) rfl kj kj) ?_
   refine Qaa (.bool false) 54 rfl kj (Qai (u:=.bool (decide ((nth (nt.n.ms) (k))≤(nth (nt.n.ms) ((k-1)))))) kj (congrArg Value.bool (decide_eq_false (by omega)))) ?_
   refine Qaa (.bool false) 55 rfl kj kj ?_
   refine Qaa (.bool false) 56 rfl kj kj ?_
   refine Qaa (.bool false) 57 rfl kj kj ?_
   refine Qaa (.slice a_t ts.length c_t) 58 rfl kj kj ?_
   refine Qaa (.int .i64 (nth (nt.n.ms) (k))) 59 rfl kj kj ?_
   refine Qaa (.int .i64 (((2*m:Nat):Int))) 60 rfl kj (Qai (u:=.int .i64 (IntKind.i64.wrap (2*(nth (nt.n.ms) (k))))) kj (congrArg (Value.int .i64) (by rw [hm]; exact ((IntWalk.i64_in _ (by omega)).trans (by omega))))) ?_
   refine Qaa (.pointer (some ⟨gzT,ozT+(2*m)*99,none⟩)) 61 rfl kj (Qao 23 _ _ .i64 (2*m) gzT ozT ts.length c_t 41 99 a_t (haz (by omega)) rfl kj kj kj kj (by omega)) ?_
   refine Qaa (.pointer (some ⟨gzT,ozT+(2*m)*99,none⟩)) 62 rfl kj kj ?_
   refine Qaa (.bool false) 63 rfl kj (Qaj 4 _ _ (.bool false) ((NdAt.at3 hnz).1.trans (congrArg (fun z=>some (Value.bool z)) hzu)) rfl kj kj) ?_
   refine Qaa (.bool true) 64 rfl kj kj ?_
   refine Qaa (.bool true) 65 rfl kj kj ?_
   refine Qaa (.bool true) 66 rfl kj kj ?_
   refine Qad 67 rfl kj ?_
   refine Qad 68 rfl kj ?_
   refine Qad 69 rfl kj ?_
   refine Qad 70 rfl kj ?_
   refine Qad 71 rfl kj ?_
   refine Qad 72 rfl kj ?_
   refine Qaa (.bool true) 73 rfl kj kj ?_
   refine Qae ?_
   refine hK15 _ _ ?_
   refine cond_true kj ?_
   refine wp_seq_k fun K20 hK20=>?_
   refine Qab ?_
   refine Qaa (.bool false) 6 rfl kj kj ?_
   refine Qae ?_
   refine hK20 _ _ ?_
   refine wp_ret ?_
   repeat (first | with_reducible refine goR1 ?_ | with_reducible refine goR2 ?_)
   exact (show bodyPost _ _ _ .ret _ _ from ret1 (.bool false) rfl (Qam kj) ⟨congrArg (fun z=>Ending.returned (.bool z)) ((Qbi h h1 h2).trans (QcP (k:=k) (by rw [←ent]; exact hlt28) (by rw [←ent]; exact hb))).symm,xx1⟩)
  ·skip
   obtain ⟨m,hm⟩:∃ m:Nat,nth nt.n.ms k=((m:Nat):Int):=⟨(nth nt.n.ms k).toNat,by omega⟩
   have hml2:m<L:=by omega
   have hb0:msOk ts ((L:Nat):Int) ((x:Nat):Int) nt.n.ms k=Qbd ts ((L:Nat):Int) ((x:Nat):Int) ((m:Nat):Int):=by unfold msOk; rw [hm,hQ.1]; rfl
   obtain ⟨gzT,ozT,haz,hnzs⟩:=TrAt.ext ht xx1
   have hnz:=hnzs (2*m) (by omega)
   obtain ⟨nz,enz⟩:∃ z,z=ndi ts (2*m):=⟨_,rfl⟩
   rw [←enz] at hnz
   have okz:=hnz.ok
   have rdz:=hnz.rd
   have hzu:nz.n.us=true:=by rw [enz]; have h9:=hQ.2.1; rw [hm] at h9; exact h9
   have habz:abv ((x:Nat):Int) (2*((m:Nat):Int)) ((L:Nat):Int)=false:=by have h9:=hQ.2.2; rw [hm] at h9; exact h9
   have hb:msOk ts ((L:Nat):Int) ((x:Nat):Int) nt.n.ms k=false:=hb0.trans (Qgl hxn (by omega) habz)
   refine Qab ?_
   refine Qaa (.int .i64 (nth (nt.n.ms) (k))) 36 rfl kj kj ?_
   refine Qaa (.bool false) 37 rfl kj (Qai (u:=.bool (decide ((nth (nt.n.ms) (k))<0))) kj (congrArg Value.bool (decide_eq_false (by omega)))) ?_
   refine Qaa (.bool false) 38 rfl kj kj ?_
   refine Qaa (.int .i64 (nth (nt.n.ms) (k))) 39 rfl kj kj ?_
   refine Qaa (.int .i64 ((L:Nat):Int)) 40 rfl kj kj ?_
   refine Qaa (.bool false) 41 rfl kj (Qai (u:=.bool (decide ((nth (nt.n.ms) (k))≥((L:Nat):Int)))) kj (congrArg Value.bool (decide_eq_false (by omega)))) ?_
   refine Qaa (.bool false) 42 rfl kj kj ?_
   refine Qaa (.bool false) 43 rfl kj kj ?_
   refine Qaa (.int .i64 ((k:Nat):Int)) 44 rfl kj kj ?_
   refine Qaa (.bool false) 45 rfl kj (Qai (u:=.bool (decide (((k:Nat):Int)>0))) kj (congrArg Value.bool (decide_eq_false (by omega)))) ?_
   refine Qaa (.bool false) 46 rfl kj kj ?_
   refine Qad 47 rfl kj ?_
   refine Qad 48 rfl kj ?_
   refine Qad 49 rfl kj ?_
   refine Qad 50 rfl kj ?_
   refine Qad 51 rfl kj ?_
   refine Qad 52 rfl kj ?_
   refine Qad 53 rfl kj ?_
   refine Qad 54 rfl kj ?_
   refine Qaa (.bool false) 55 rfl kj kj ?_
   refine Qaa (.bool false) 56 rfl kj kj ?_
   refine Qaa (.bool false) 57 rfl kj kj ?_
   refine Qaa (.slice a_t ts.length c_t) 58 rfl kj kj ?_
   refine Qaa (.int .i64 (nth (nt.n.ms) (k))) 59 rfl kj kj ?_
   refine Qaa (.int .i64 (((2*m:Nat):Int))) 60 rfl kj (Qai (u:=.int .i64 (IntKind.i64.wrap (2*(nth (nt.n.ms) (k))))) kj (congrArg (Value.int .i64) (by rw [hm]; exact ((IntWalk.i64_in _ (by omega)).trans (by omega))))) ?_
   refine Qaa (.pointer (some ⟨gzT,ozT+(2*m)*99,none⟩)) 61 rfl kj (Qao 23 _ _ .i64 (2*m) gzT ozT ts.length c_t 41 99 a_t (haz (by omega)) rfl kj kj kj kj (by omega)) ?_
   refine Qaa (.pointer (some ⟨gzT,ozT+(2*m)*99,none⟩)) 62 rfl kj kj ?_
   refine Qaa (.bool true) 63 rfl kj (Qaj 4 _ _ (.bool true) ((NdAt.at3 hnz).1.trans (congrArg (fun z=>some (Value.bool z)) hzu)) rfl kj kj) ?_
   refine Qaa (.bool false) 64 rfl kj kj ?_
   refine Qaa (.bool false) 65 rfl kj kj ?_
   refine Qaa (.bool false) 66 rfl kj kj ?_
   refine Qaa (.int .i64 ((x:Nat):Int)) 67 rfl kj kj ?_
   refine Qaa (.int .i64 (nth (nt.n.ms) (k))) 68 rfl kj kj ?_
   refine Qaa (.int .i64 (2*((m:Nat):Int))) 69 rfl kj (Qai (u:=.int .i64 (IntKind.i64.wrap (2*(nth (nt.n.ms) (k))))) kj (congrArg (Value.int .i64) (by rw [hm]; exact IntWalk.i64_in _ (by omega)))) ?_
   refine Qaa (.int .i64 ((L:Nat):Int)) 70 rfl kj kj ?_
   refine Qal (.bool false) 61 #[.int .i64 ((x:Nat):Int),.int .i64 (2*((m:Nat):Int)),.int .i64 ((L:Nat):Int)] 71 rfl kj kj (Qb9 _ _ _ false habz _) fun W4 e4=>?_
   have x4:Ext w W4:=Ext.tr xx1 e4
   refine Qaa (.bool true) 72 rfl kj kj ?_
   refine Qaa (.bool true) 73 rfl kj kj ?_
   refine Qae ?_
   refine hK15 _ _ ?_
   refine cond_true kj ?_
   refine wp_seq_k fun K21 hK21=>?_
   refine Qab ?_
   refine Qaa (.bool false) 6 rfl kj kj ?_
   refine Qae ?_
   refine hK21 _ _ ?_
   refine wp_ret ?_
   repeat (first | with_reducible refine goR1 ?_ | with_reducible refine goR2 ?_)
   exact (show bodyPost _ _ _ .ret _ _ from ret1 (.bool false) rfl (Qam kj) ⟨congrArg (fun z=>Ending.returned (.bool z)) ((Qbi h h1 h2).trans (QcP (k:=k) (by rw [←ent]; exact hlt28) (by rw [←ent]; exact hb))).symm,x4⟩)
  ·skip
   obtain ⟨m,hm⟩:∃ m:Nat,nth nt.n.ms k=((m:Nat):Int):=⟨(nth nt.n.ms k).toNat,by omega⟩
   have hml2:m<L:=by omega
   have hb0:msOk ts ((L:Nat):Int) ((x:Nat):Int) nt.n.ms k=Qbd ts ((L:Nat):Int) ((x:Nat):Int) ((m:Nat):Int):=by unfold msOk; rw [decide_eq_true hQ.1.2,hm,Bool.or_true,Bool.true_and]
   obtain ⟨gzT,ozT,haz,hnzs⟩:=TrAt.ext ht xx1
   have hnz:=hnzs (2*m) (by omega)
   obtain ⟨nz,enz⟩:∃ z,z=ndi ts (2*m):=⟨_,rfl⟩
   rw [←enz] at hnz
   have okz:=hnz.ok
   have rdz:=hnz.rd
   have hzu:nz.n.us=true:=by rw [enz]; have h9:=hQ.2.1; rw [hm] at h9; exact h9
   have habz:abv ((x:Nat):Int) (2*((m:Nat):Int)) ((L:Nat):Int)=false:=by have h9:=hQ.2.2; rw [hm] at h9; exact h9
   have hb:msOk ts ((L:Nat):Int) ((x:Nat):Int) nt.n.ms k=false:=hb0.trans (Qgl hxn (by omega) habz)
   refine Qab ?_
   refine Qaa (.int .i64 (nth (nt.n.ms) (k))) 36 rfl kj kj ?_
   refine Qaa (.bool false) 37 rfl kj (Qai (u:=.bool (decide ((nth (nt.n.ms) (k))<0))) kj (congrArg Value.bool (decide_eq_false (by omega)))) ?_
   refine Qaa (.bool false) 38 rfl kj kj ?_
   refine Qaa (.int .i64 (nth (nt.n.ms) (k))) 39 rfl kj kj ?_
   refine Qaa (.int .i64 ((L:Nat):Int)) 40 rfl kj kj ?_
   refine Qaa (.bool false) 41 rfl kj (Qai (u:=.bool (decide ((nth (nt.n.ms) (k))≥((L:Nat):Int)))) kj (congrArg Value.bool (decide_eq_false (by omega)))) ?_
   refine Qaa (.bool false) 42 rfl kj kj ?_
   refine Qaa (.bool false) 43 rfl kj kj ?_
   refine Qaa (.int .i64 ((k:Nat):Int)) 44 rfl kj kj ?_
   refine Qaa (.bool true) 45 rfl kj (Qai (u:=.bool (decide (((k:Nat):Int)>0))) kj (congrArg Value.bool (decide_eq_true (by omega)))) ?_
   refine Qaa (.bool true) 46 rfl kj kj ?_
   refine Qaa (.int .i64 (nth (nt.n.ms) (k))) 47 rfl kj kj ?_
   refine Qaa (.pointer (some ⟨g3,98,none⟩)) 48 rfl kj kj ?_
   refine Qaa (.slice nt.a nt.n.ms.length nt.c) 49 rfl kj (Qag 36 _ g3 98 41 _ (.slice nt.a nt.n.ms.length nt.c) _ r3_3 rfl kj (Qak [#[.bool nt.n.us],#[.int .i64 nt.n.nm],ints .u8 (nt.n.key),ints .u8 (nt.n.sg),ints .u8 (nt.n.pa)] [#[.slice nt.a nt.n.ms.length nt.c]] [] 98 (by rw [Qac,Qac,Qac,Qac,Qac]; simp only [qS,cat,((Qaf _ _).trans okt.gl),((Qaf _ _).trans okt.kl),((Qaf _ _).trans okt.pl)]; rfl) 0 _ rfl) kj) ?_
   refine Qaa (.int .i64 ((k:Nat):Int)) 50 rfl kj kj ?_
   refine Qaa (.int .i64 ((k-1:Nat):Int)) 51 rfl kj (Qai (u:=.int .i64 (IntKind.i64.wrap (((k:Nat):Int)-1))) kj (congrArg (Value.int .i64) (i64n _ _ (by omega) (by omega)))) ?_
   refine Qaa (.pointer (some ⟨gcx_11,ocx_11+(k-1),none⟩)) 52 rfl kj (QaA 36 _ _ .i64 (k-1) gcx_11 ocx_11 nt.n.ms.length nt.c 3 nt.a _ hax_11 rfl rfl kj kj kj kj (Nat.lt_of_lt_of_eq (show k-1<nt.n.ms.length by omega) hnx_11.symm)) ?_
   refine Qaa (.int .i64 (nth (nt.n.ms) ((k-1)))) 53 rfl kj (Qaj 3 _ _ (.int .i64 (nth (nt.n.ms) ((k-1)))) (hcx_11 (k-1) (Nat.lt_of_lt_of_eq (show k-1<nt.n.ms.length by omega) hnx_11.symm)) rfl kj kj) ?_
   refine Qaa (.bool false) 54 rfl kj (Qai (u:=.bool (decide ((nth (nt.n.ms) (k))≤(nth (nt.n.ms) ((k-1)))))) kj (congrArg Value.bool (decide_eq_false (by omega)))) ?_
   refine Qaa (.bool false) 55 rfl kj kj ?_
   refine Qaa (.bool false) 56 rfl kj kj ?_
   refine Qaa (.bool false) 57 rfl kj kj ?_
   refine Qaa (.slice a_t ts.length c_t) 58 rfl kj kj ?_
   refine Qaa (.int .i64 (nth (nt.n.ms) (k))) 59 rfl kj kj ?_
   refine Qaa (.int .i64 (((2*m:Nat):Int))) 60 rfl kj (Qai (u:=.int .i64 (IntKind.i64.wrap (2*(nth (nt.n.ms) (k))))) kj (congrArg (Value.int .i64) (by rw [hm]; exact ((IntWalk.i64_in _ (by omega)).trans (by omega))))) ?_
   refine Qaa (.pointer (some ⟨gzT,ozT+(2*m)*99,none⟩)) 61 rfl kj (Qao 23 _ _ .i64 (2*m) gzT ozT ts.length c_t 41 99 a_t (haz (by omega)) rfl kj kj kj kj (by omega)) ?_
   refine Qaa (.pointer (some ⟨gzT,ozT+(2*m)*99,none⟩)) 62 rfl kj kj ?_
   refine Qaa (.bool true) 63 rfl kj (Qaj 4 _ _ (.bool true) ((NdAt.at3 hnz).1.trans (congrArg (fun z=>some (Value.bool z)) hzu)) rfl kj kj) ?_
   refine Qaa (.bool false) 64 rfl kj kj ?_
   refine Qaa (.bool false) 65 rfl kj kj ?_
   refine Qaa (.bool false) 66 rfl kj kj ?_
   refine Qaa (.int .i64 ((x:Nat):Int)) 67 rfl kj kj ?_
   refine Qaa (.int .i64 (nth (nt.n.ms) (k))) 68 rfl kj kj ?_
   refine Qaa (.int .i64 (2*((m:Nat):Int))) 69 rfl kj (Qai (u:=.int .i64 (IntKind.i64.wrap (2*(nth (nt.n.ms) (k))))) kj (congrArg (Value.int .i64) (by rw [hm]; exact IntWalk.i64_in _ (by omega)))) ?_
   refine Qaa (.int .i64 ((L:Nat):Int)) 70 rfl kj kj ?_
   refine Qal (.bool false) 61 #[.int .i64 ((x:Nat):Int),.int .i64 (2*((m:Nat):Int)),.int .i64 ((L:Nat):Int)] 71 rfl kj kj (Qb9 _ _ _ false habz _) fun W4 e4=>?_
   have x4:Ext w W4:=Ext.tr xx1 e4
   refine Qaa (.bool true) 72 rfl kj kj ?_
   refine Qaa (.bool true) 73 rfl kj kj ?_
   refine Qae ?_
   refine hK15 _ _ ?_
   refine cond_true kj ?_
   refine wp_seq_k fun K22 hK22=>?_
   refine Qab ?_
   refine Qaa (.bool false) 6 rfl kj kj ?_
   refine Qae ?_
   refine hK22 _ _ ?_
   refine wp_ret ?_
   repeat (first | with_reducible refine goR1 ?_ | with_reducible refine goR2 ?_)
   exact (show bodyPost _ _ _ .ret _ _ from ret1 (.bool false) rfl (Qam kj) ⟨congrArg (fun z=>Ending.returned (.bool z)) ((Qbi h h1 h2).trans (QcP (k:=k) (by rw [←ent]; exact hlt28) (by rw [←ent]; exact hb))).symm,x4⟩)
  ·skip
   obtain ⟨m,hm⟩:∃ m:Nat,nth nt.n.ms k=((m:Nat):Int):=⟨(nth nt.n.ms k).toNat,by omega⟩
   have hml2:m<L:=by omega
   have hb0:msOk ts ((L:Nat):Int) ((x:Nat):Int) nt.n.ms k=Qbd ts ((L:Nat):Int) ((x:Nat):Int) ((m:Nat):Int):=by unfold msOk; rw [hm,hQ.1]; rfl
   obtain ⟨gzT,ozT,haz,hnzs⟩:=TrAt.ext ht xx1
   have hnz:=hnzs (2*m) (by omega)
   obtain ⟨nz,enz⟩:∃ z,z=ndi ts (2*m):=⟨_,rfl⟩
   rw [←enz] at hnz
   have okz:=hnz.ok
   have rdz:=hnz.rd
   have hzu:nz.n.us=true:=by rw [enz]; have h9:=hQ.2.1; rw [hm] at h9; exact h9
   have habz:abv ((x:Nat):Int) (2*((m:Nat):Int)) ((L:Nat):Int)=true:=by have h9:=hQ.2.2; rw [hm] at h9; exact h9
   have hQ1:=hQ.1
   replace hQ:True∧True∧abv ((x:Nat):Int) (2*((m:Nat):Int)) ((L:Nat):Int)=true:=⟨trivial,trivial,habz⟩
   refine Qab ?_
   refine Qaa (.int .i64 (nth (nt.n.ms) (k))) 36 rfl kj kj ?_
   refine Qaa (.bool false) 37 rfl kj (Qai (u:=.bool (decide ((nth (nt.n.ms) (k))<0))) kj (congrArg Value.bool (decide_eq_false (by omega)))) ?_
   refine Qaa (.bool false) 38 rfl kj kj ?_
   refine Qaa (.int .i64 (nth (nt.n.ms) (k))) 39 rfl kj kj ?_
   refine Qaa (.int .i64 ((L:Nat):Int)) 40 rfl kj kj ?_
   refine Qaa (.bool false) 41 rfl kj (Qai (u:=.bool (decide ((nth (nt.n.ms) (k))≥((L:Nat):Int)))) kj (congrArg Value.bool (decide_eq_false (by omega)))) ?_
   refine Qaa (.bool false) 42 rfl kj kj ?_
   refine Qaa (.bool false) 43 rfl kj kj ?_
   refine Qaa (.int .i64 ((k:Nat):Int)) 44 rfl kj kj ?_
   refine Qaa (.bool false) 45 rfl kj (Qai (u:=.bool (decide (((k:Nat):Int)>0))) kj (congrArg Value.bool (decide_eq_false (by omega)))) ?_
   refine Qaa (.bool false) 46 rfl kj kj ?_
   refine Qad 47 rfl kj ?_
   refine Qad 48 rfl kj ?_
   refine Qad 49 rfl kj ?_
   refine Qad 50 rfl kj ?_
   refine Qad 51 rfl kj ?_
   refine Qad 52 rfl kj ?_
   refine Qad 53 rfl kj ?_
   refine Qad 54 rfl kj ?_
   refine Qaa (.bool false) 55 rfl kj kj ?_
   refine Qaa (.bool false) 56 rfl kj kj ?_
   refine Qaa (.bool false) 57 rfl kj kj ?_
   refine Qaa (.slice a_t ts.length c_t) 58 rfl kj kj ?_
   refine Qaa (.int .i64 (nth (nt.n.ms) (k))) 59 rfl kj kj ?_
   refine Qaa (.int .i64 (((2*m:Nat):Int))) 60 rfl kj (Qai (u:=.int .i64 (IntKind.i64.wrap (2*(nth (nt.n.ms) (k))))) kj (congrArg (Value.int .i64) (by rw [hm]; exact ((IntWalk.i64_in _ (by omega)).trans (by omega))))) ?_
   refine Qaa (.pointer (some ⟨gzT,ozT+(2*m)*99,none⟩)) 61 rfl kj (Qao 23 _ _ .i64 (2*m) gzT ozT ts.length c_t 41 99 a_t (haz (by omega)) rfl kj kj kj kj (by omega)) ?_
   refine Qaa (.pointer (some ⟨gzT,ozT+(2*m)*99,none⟩)) 62 rfl kj kj ?_
   refine Qaa (.bool true) 63 rfl kj (Qaj 4 _ _ (.bool true) ((NdAt.at3 hnz).1.trans (congrArg (fun z=>some (Value.bool z)) hzu)) rfl kj kj) ?_
   refine Qaa (.bool false) 64 rfl kj kj ?_
   refine Qaa (.bool false) 65 rfl kj kj ?_
   refine Qaa (.bool false) 66 rfl kj kj ?_
   refine Qaa (.int .i64 ((x:Nat):Int)) 67 rfl kj kj ?_
   refine Qaa (.int .i64 (nth (nt.n.ms) (k))) 68 rfl kj kj ?_
   refine Qaa (.int .i64 (2*((m:Nat):Int))) 69 rfl kj (Qai (u:=.int .i64 (IntKind.i64.wrap (2*(nth (nt.n.ms) (k))))) kj (congrArg (Value.int .i64) (by rw [hm]; exact IntWalk.i64_in _ (by omega)))) ?_
   refine Qaa (.int .i64 ((L:Nat):Int)) 70 rfl kj kj ?_
   refine Qal (.bool true) 61 #[.int .i64 ((x:Nat):Int),.int .i64 (2*((m:Nat):Int)),.int .i64 ((L:Nat):Int)] 71 rfl kj kj (Qb9 _ _ _ true habz _) fun W4 e4=>?_
   have x4:Ext w W4:=Ext.tr xx1 e4
   refine Qaa (.bool false) 72 rfl kj kj ?_
   refine Qaa (.bool false) 73 rfl kj kj ?_
   refine Qae ?_
   refine hK15 _ _ ?_
   refine cond_false kj ?_
   refine wp_skip ?_
   refine hK14 _ _ ?_
   refine wp_seq_k fun K23 hK23=>?_
   refine Qab ?_
   refine Qaa (.int .i64 1) 10 rfl kj kj ?_
   refine Qae ?_
   refine hK23 _ _ ?_
   refine wp_block ?_
   refine Qaz (fun (s2:Nat)=>[(0,.slice a_t ts.length c_t),(1,.int .i64 ((x:Nat):Int)),(2,.int .i64 ((L:Nat):Int)),(7,.pointer (some ⟨g3,0,none⟩)),(8,.int .i64 ((k:Nat):Int)),(9,.int .i64 (nth (nt.n.ms) (k))),(10,.int .i64 ((2*s2+1:Nat):Int))]) (fun (s2:Nat) W=>(s2≤100000)∧(∀ j2,j2<s2→((2*j2+1:Nat):Int)≠((x:Nat):Int)→(ndi ts (2*j2+1)).n.us=true→abv ((x:Nat):Int) ((2*j2+1:Nat):Int) ((L:Nat):Int)=true→abv ((2*j2+1:Nat):Int) (2*((m:Nat):Int)) ((L:Nat):Int)=true→((m:Nat):Int)∈(ndi ts (2*j2+1)).n.ms)∧(Ext W4 W)∧(Ext w W)) (fun (s2:Nat)=>ts.length-s2) 0 ⟨rfl,rfl,rfl,rfl,rfl,rfl,rfl,trivial⟩ ⟨(Nat.zero_le _),(fun j2 hj=>absurd hj (Nat.not_lt_zero j2)),(Rely.Ext.refl W4),x4⟩ fun s2 X2 V2 hI2=>?_
   obtain ⟨j,hs2⟩:∃ z,z=s2:=⟨_,rfl⟩
   subst hs2
   obtain ⟨hj,hys,kk2,xx2⟩:=hI2
   replace hj:j≤100000:=hj
   replace hys:∀ j2,j2<j→((2*j2+1:Nat):Int)≠((x:Nat):Int)→(ndi ts (2*j2+1)).n.us=true→abv ((x:Nat):Int) ((2*j2+1:Nat):Int) ((L:Nat):Int)=true→abv ((2*j2+1:Nat):Int) (2*((m:Nat):Int)) ((L:Nat):Int)=true→((m:Nat):Int)∈(ndi ts (2*j2+1)).n.ms:=hys
   replace kk2:Ext W4 V2:=kk2
   replace xx2:Ext w V2:=xx2
   have e5:=kk2
   refine wp_seq_k fun K24 hK24=>?_
   refine wp_seq_k fun K25 hK25=>?_
   refine Qab ?_
   refine Qaa (.int .i64 ((2*j+1:Nat):Int)) 74 rfl kj kj ?_
   refine Qaa (.slice a_t ts.length c_t) 75 rfl kj kj ?_
   refine Qaa (.int .i64 ((ts.length:Nat):Int)) 76 rfl kj kj ?_
   refine Qaa (.bool (decide (((2*j+1:Nat):Int)<((ts.length:Nat):Int)))) 77 rfl kj kj ?_
   refine Qae ?_
   refine hK25 _ _ ?_
   refine Qat (t:=decide (((2*j+1:Nat):Int)<((ts.length:Nat):Int))) kj (fun c26=>?_) (fun c26=>?_)
   ·skip
    have hy77:2*j+1<ts.length:=by have:=of_decide_eq_true c26; omega
    refine wp_skip ?_
    refine hK24 _ _ ?_
    refine wp_seq_k fun K27 hK27=>?_
    refine wp_block ?_
    refine wp_seq_k fun K28 hK28=>?_
    obtain ⟨gyT,oyT,hay,hnys⟩:=TrAt.ext ht xx2
    have hny:=hnys (2*j+1) (by omega)
    obtain ⟨ny,eny⟩:∃ z,z=ndi ts (2*j+1):=⟨_,rfl⟩
    rw [←eny] at hny
    have oky:=hny.ok
    have rdy:=hny.rd
    have hyn:Qau ((2*j+1:Nat):Int) ((L:Nat):Int)=true:=Qbb hTr (by omega)
    rcases (show (2*j+1=x)∨(2*j+1≠x∧ny.n.us=false)∨(2*j+1≠x∧ny.n.us=true∧abv ((x:Nat):Int) ((2*j+1:Nat):Int) ((L:Nat):Int)=false)∨(2*j+1≠x∧ny.n.us=true∧abv ((x:Nat):Int) ((2*j+1:Nat):Int) ((L:Nat):Int)=true∧abv ((2*j+1:Nat):Int) (2*((m:Nat):Int)) ((L:Nat):Int)=false)∨(2*j+1≠x∧ny.n.us=true∧abv ((x:Nat):Int) ((2*j+1:Nat):Int) ((L:Nat):Int)=true∧abv ((2*j+1:Nat):Int) (2*((m:Nat):Int)) ((L:Nat):Int)=true∧nth nt.n.ms k∈ny.n.ms)∨(2*j+1≠x∧ny.n.us=true∧abv ((x:Nat):Int) ((2*j+1:Nat):Int) ((L:Nat):Int)=true∧abv ((2*j+1:Nat):Int) (2*((m:Nat):Int)) ((L:Nat):Int)=true∧nth nt.n.ms k∉ny.n.ms) from Qj9 _ _ _ _ _) with hq | hq | hq | hq | hq | hq
    ·skip
     have hyk:((2*j+1:Nat):Int)≠((x:Nat):Int)→(ndi ts (2*j+1)).n.us=true→abv ((x:Nat):Int) ((2*j+1:Nat):Int) ((L:Nat):Int)=true→abv ((2*j+1:Nat):Int) (2*((m:Nat):Int)) ((L:Nat):Int)=true→((m:Nat):Int)∈(ndi ts (2*j+1)).n.ms:=fun h1 h2 h3 h4=>absurd (by omega) h1
     refine Qab ?_
     refine Qaa (.int .i64 ((2*j+1:Nat):Int)) 80 rfl kj kj ?_
     refine Qaa (.int .i64 ((x:Nat):Int)) 81 rfl kj kj ?_
     refine Qaa (.bool false) 82 rfl kj (Qai (u:=.bool ((((2*j+1:Nat):Int) != ((x:Nat):Int)))) kj (congrArg Value.bool (bne_eq_false_iff_eq.2 (by omega)))) ?_
     refine Qaa (.bool false) 83 rfl kj kj ?_
     refine Qad 84 rfl kj ?_
     refine Qad 85 rfl kj ?_
     refine Qad 86 rfl kj ?_
     refine Qad 87 rfl kj ?_
     refine Qad 88 rfl kj ?_
     refine Qaa (.bool false) 89 rfl kj kj ?_
     refine Qaa (.bool false) 90 rfl kj kj ?_
     refine Qad 91 rfl kj ?_
     refine Qad 92 rfl kj ?_
     refine Qad 93 rfl kj ?_
     refine Qad 94 rfl kj ?_
     refine Qaa (.bool false) 95 rfl kj kj ?_
     refine Qaa (.bool false) 96 rfl kj kj ?_
     refine Qad 97 rfl kj ?_
     refine Qad 98 rfl kj ?_
     refine Qad 99 rfl kj ?_
     refine Qad 100 rfl kj ?_
     refine Qad 101 rfl kj ?_
     refine Qaa (.bool false) 102 rfl kj kj ?_
     refine Qaa (.bool false) 103 rfl kj kj ?_
     refine Qad 104 rfl kj ?_
     refine Qad 105 rfl kj ?_
     refine Qad 106 rfl kj ?_
     refine Qad 107 rfl kj ?_
     refine Qad 108 rfl kj ?_
     refine Qad 109 rfl kj ?_
     refine Qad 110 rfl kj ?_
     refine Qad 111 rfl kj ?_
     refine Qaa (.bool false) 112 rfl kj kj ?_
     refine Qae ?_
     refine hK28 _ _ ?_
     refine cond_false kj ?_
     refine wp_skip ?_
     refine hK27 _ _ ?_
     refine Qab ?_
     refine Qaa (.int .i64 ((2*j+1:Nat):Int)) 78 rfl kj kj ?_
     refine Qaa (.int .i64 (((2*(j+1)+1:Nat):Int))) 79 rfl kj (Qai (u:=.int .i64 (IntKind.i64.wrap (((2*j+1:Nat):Int)+2))) kj (congrArg (Value.int .i64) ((IntWalk.i64_in _ (by omega)).trans (by omega)))) ?_
     refine Qaa (.int .i64 (((2*(j+1)+1:Nat):Int))) 10 rfl kj kj ?_
     refine Qae ?_
     repeat (first | with_reducible refine goX1 ?_ | with_reducible refine goX2 ?_ | with_reducible refine goX3 ?_)
     exact Qas (j+1) ⟨rfl,rfl,rfl,rfl,rfl,rfl,rfl,trivial⟩ ⟨(by omega),(fun j2 hj=>by by_cases e:j2=j; (rw [e]; exact hyk); exact hys j2 (by omega)),e5,xx2⟩ (by show ts.length-(j+1)<ts.length-j; omega)
    ·skip
     have hyk:((2*j+1:Nat):Int)≠((x:Nat):Int)→(ndi ts (2*j+1)).n.us=true→abv ((x:Nat):Int) ((2*j+1:Nat):Int) ((L:Nat):Int)=true→abv ((2*j+1:Nat):Int) (2*((m:Nat):Int)) ((L:Nat):Int)=true→((m:Nat):Int)∈(ndi ts (2*j+1)).n.ms:=fun h1 h2 h3 h4=>by rw [←eny,hq.2] at h2; cases h2
     refine Qab ?_
     refine Qaa (.int .i64 ((2*j+1:Nat):Int)) 80 rfl kj kj ?_
     refine Qaa (.int .i64 ((x:Nat):Int)) 81 rfl kj kj ?_
     refine Qaa (.bool true) 82 rfl kj (Qai (u:=.bool ((((2*j+1:Nat):Int) != ((x:Nat):Int)))) kj (congrArg Value.bool (bne_iff_ne.2 (by omega)))) ?_
     refine Qaa (.bool true) 83 rfl kj kj ?_
     refine Qaa (.slice a_t ts.length c_t) 84 rfl kj kj ?_
     refine Qaa (.int .i64 ((2*j+1:Nat):Int)) 85 rfl kj kj ?_
     refine Qaa (.pointer (some ⟨gyT,oyT+(2*j+1)*99,none⟩)) 86 rfl kj (Qao 23 _ _ .i64 (2*j+1) gyT oyT ts.length c_t 41 99 a_t (hay (by omega)) rfl kj kj kj kj (by omega)) ?_
     refine Qaa (.pointer (some ⟨gyT,oyT+(2*j+1)*99,none⟩)) 87 rfl kj kj ?_
     refine Qaa (.bool false) 88 rfl kj (Qaj 4 _ _ (.bool false) ((NdAt.at3 hny).1.trans (congrArg (fun z=>some (Value.bool z)) hq.2)) rfl kj kj) ?_
     refine Qaa (.bool false) 89 rfl kj kj ?_
     refine Qaa (.bool false) 90 rfl kj kj ?_
     refine Qad 91 rfl kj ?_
     refine Qad 92 rfl kj ?_
     refine Qad 93 rfl kj ?_
     refine Qad 94 rfl kj ?_
     refine Qaa (.bool false) 95 rfl kj kj ?_
     refine Qaa (.bool false) 96 rfl kj kj ?_
     refine Qad 97 rfl kj ?_
     refine Qad 98 rfl kj ?_
     refine Qad 99 rfl kj ?_
     refine Qad 100 rfl kj ?_
     refine Qad 101 rfl kj ?_
     refine Qaa (.bool false) 102 rfl kj kj ?_
     refine Qaa (.bool false) 103 rfl kj kj ?_
     refine Qad 104 rfl kj ?_
     refine Qad 105 rfl kj ?_
     refine Qad 106 rfl kj ?_
     refine Qad 107 rfl kj ?_
     refine Qad 108 rfl kj ?_
     refine Qad 109 rfl kj ?_
     refine Qad 110 rfl kj ?_
     refine Qad 111 rfl kj ?_
     refine Qaa (.bool false) 112 rfl kj kj ?_
     refine Qae ?_
     refine hK28 _ _ ?_
     refine cond_false kj ?_
     refine wp_skip ?_
     refine hK27 _ _ ?_
     refine Qab ?_
     refine Qaa (.int .i64 ((2*j+1:Nat):Int)) 78 rfl kj kj ?_
     refine Qaa (.int .i64 (((2*(j+1)+1:Nat):Int))) 79 rfl kj (Qai (u:=.int .i64 (IntKind.i64.wrap (((2*j+1:Nat):Int)+2))) kj (congrArg (Value.int .i64) ((IntWalk.i64_in _ (by omega)).trans (by omega)))) ?_
     refine Qaa (.int .i64 (((2*(j+1)+1:Nat):Int))) 10 rfl kj kj ?_
     refine Qae ?_
     repeat (first | with_reducible refine goX1 ?_ | with_reducible refine goX2 ?_ | with_reducible refine goX3 ?_)
     exact Qas (j+1) ⟨rfl,rfl,rfl,rfl,rfl,rfl,rfl,trivial⟩ ⟨(by omega),(fun j2 hj=>by by_cases e:j2=j; (rw [e]; exact hyk); exact hys j2 (by omega)),e5,xx2⟩ (by show ts.length-(j+1)<ts.length-j; omega)
    ·skip
     have hyk:((2*j+1:Nat):Int)≠((x:Nat):Int)→(ndi ts (2*j+1)).n.us=true→abv ((x:Nat):Int) ((2*j+1:Nat):Int) ((L:Nat):Int)=true→abv ((2*j+1:Nat):Int) (2*((m:Nat):Int)) ((L:Nat):Int)=true→((m:Nat):Int)∈(ndi ts (2*j+1)).n.ms:=fun h1 h2 h3 h4=>by rw [hq.2.2] at h3; cases h3
     refine Qab ?_
     refine Qaa (.int .i64 ((2*j+1:Nat):Int)) 80 rfl kj kj ?_
     refine Qaa (.int .i64 ((x:Nat):Int)) 81 rfl kj kj ?_
     refine Qaa (.bool true) 82 rfl kj (Qai (u:=.bool ((((2*j+1:Nat):Int) != ((x:Nat):Int)))) kj (congrArg Value.bool (bne_iff_ne.2 (by omega)))) ?_
     refine Qaa (.bool true) 83 rfl kj kj ?_
     refine Qaa (.slice a_t ts.length c_t) 84 rfl kj kj ?_
     refine Qaa (.int .i64 ((2*j+1:Nat):Int)) 85 rfl kj kj ?_
     refine Qaa (.pointer (some ⟨gyT,oyT+(2*j+1)*99,none⟩)) 86 rfl kj (Qao 23 _ _ .i64 (2*j+1) gyT oyT ts.length c_t 41 99 a_t (hay (by omega)) rfl kj kj kj kj (by omega)) ?_
     refine Qaa (.pointer (some ⟨gyT,oyT+(2*j+1)*99,none⟩)) 87 rfl kj kj ?_
     refine Qaa (.bool true) 88 rfl kj (Qaj 4 _ _ (.bool true) ((NdAt.at3 hny).1.trans (congrArg (fun z=>some (Value.bool z)) hq.2.1)) rfl kj kj) ?_
     refine Qaa (.bool true) 89 rfl kj kj ?_
     refine Qaa (.bool true) 90 rfl kj kj ?_
     refine Qaa (.int .i64 ((x:Nat):Int)) 91 rfl kj kj ?_
     refine Qaa (.int .i64 ((2*j+1:Nat):Int)) 92 rfl kj kj ?_
     refine Qaa (.int .i64 ((L:Nat):Int)) 93 rfl kj kj ?_
     refine Qal (.bool false) 61 #[.int .i64 ((x:Nat):Int),.int .i64 ((2*j+1:Nat):Int),.int .i64 ((L:Nat):Int)] 94 rfl kj kj (Qb9 _ _ _ false hq.2.2 _) fun W6 e6=>?_
     have x6:Ext w W6:=Ext.tr xx2 e6
     refine Qaa (.bool false) 95 rfl kj kj ?_
     refine Qaa (.bool false) 96 rfl kj kj ?_
     refine Qad 97 rfl kj ?_
     refine Qad 98 rfl kj ?_
     refine Qad 99 rfl kj ?_
     refine Qad 100 rfl kj ?_
     refine Qad 101 rfl kj ?_
     refine Qaa (.bool false) 102 rfl kj kj ?_
     refine Qaa (.bool false) 103 rfl kj kj ?_
     refine Qad 104 rfl kj ?_
     refine Qad 105 rfl kj ?_
     refine Qad 106 rfl kj ?_
     refine Qad 107 rfl kj ?_
     refine Qad 108 rfl kj ?_
     refine Qad 109 rfl kj ?_
     refine Qad 110 rfl kj ?_
     refine Qad 111 rfl kj ?_
     refine Qaa (.bool false) 112 rfl kj kj ?_
     refine Qae ?_
     refine hK28 _ _ ?_
     refine cond_false kj ?_
     refine wp_skip ?_
     refine hK27 _ _ ?_
     refine Qab ?_
     refine Qaa (.int .i64 ((2*j+1:Nat):Int)) 78 rfl kj kj ?_
     refine Qaa (.int .i64 (((2*(j+1)+1:Nat):Int))) 79 rfl kj (Qai (u:=.int .i64 (IntKind.i64.wrap (((2*j+1:Nat):Int)+2))) kj (congrArg (Value.int .i64) ((IntWalk.i64_in _ (by omega)).trans (by omega)))) ?_
     refine Qaa (.int .i64 (((2*(j+1)+1:Nat):Int))) 10 rfl kj kj ?_
     refine Qae ?_
     have y4_6:Ext W4 W6:=(Rely.Ext.trans e5 e6)
     repeat (first | with_reducible refine goX1 ?_ | with_reducible refine goX2 ?_ | with_reducible refine goX3 ?_)
     exact Qas (j+1) ⟨rfl,rfl,rfl,rfl,rfl,rfl,rfl,trivial⟩ ⟨(by omega),(fun j2 hj=>by by_cases e:j2=j; (rw [e]; exact hyk); exact hys j2 (by omega)),y4_6,x6⟩ (by show ts.length-(j+1)<ts.length-j; omega)
    ·skip
     have hyk:((2*j+1:Nat):Int)≠((x:Nat):Int)→(ndi ts (2*j+1)).n.us=true→abv ((x:Nat):Int) ((2*j+1:Nat):Int) ((L:Nat):Int)=true→abv ((2*j+1:Nat):Int) (2*((m:Nat):Int)) ((L:Nat):Int)=true→((m:Nat):Int)∈(ndi ts (2*j+1)).n.ms:=fun h1 h2 h3 h4=>by rw [hq.2.2.2] at h4; cases h4
     refine Qab ?_
     refine Qaa (.int .i64 ((2*j+1:Nat):Int)) 80 rfl kj kj ?_
     refine Qaa (.int .i64 ((x:Nat):Int)) 81 rfl kj kj ?_
     refine Qaa (.bool true) 82 rfl kj (Qai (u:=.bool ((((2*j+1:Nat):Int) != ((x:Nat):Int)))) kj (congrArg Value.bool (bne_iff_ne.2 (by omega)))) ?_
     refine Qaa (.bool true) 83 rfl kj kj ?_
     refine Qaa (.slice a_t ts.length c_t) 84 rfl kj kj ?_
     refine Qaa (.int .i64 ((2*j+1:Nat):Int)) 85 rfl kj kj ?_
     refine Qaa (.pointer (some ⟨gyT,oyT+(2*j+1)*99,none⟩)) 86 rfl kj (Qao 23 _ _ .i64 (2*j+1) gyT oyT ts.length c_t 41 99 a_t (hay (by omega)) rfl kj kj kj kj (by omega)) ?_
     refine Qaa (.pointer (some ⟨gyT,oyT+(2*j+1)*99,none⟩)) 87 rfl kj kj ?_
     refine Qaa (.bool true) 88 rfl kj (Qaj 4 _ _ (.bool true) ((NdAt.at3 hny).1.trans (congrArg (fun z=>some (Value.bool z)) hq.2.1)) rfl kj kj) ?_
     refine Qaa (.bool true) 89 rfl kj kj ?_
     refine Qaa (.bool true) 90 rfl kj kj ?_
     refine Qaa (.int .i64 ((x:Nat):Int)) 91 rfl kj kj ?_
     refine Qaa (.int .i64 ((2*j+1:Nat):Int)) 92 rfl kj kj ?_
     refine Qaa (.int .i64 ((L:Nat):Int)) 93 rfl kj kj ?_
     refine Qal (.bool true) 61 #[.int .i64 ((x:Nat):Int),.int .i64 ((2*j+1:Nat):Int),.int .i64 ((L:Nat):Int)] 94 rfl kj kj (Qb9 _ _ _ true hq.2.2.1 _) fun W6 e6=>?_
     have x6:Ext w W6:=Ext.tr xx2 e6
     refine Qaa (.bool true) 95 rfl kj kj ?_
     refine Qaa (.bool true) 96 rfl kj kj ?_
     refine Qaa (.int .i64 ((2*j+1:Nat):Int)) 97 rfl kj kj ?_
     refine Qaa (.int .i64 (nth (nt.n.ms) (k))) 98 rfl kj kj ?_
     refine Qaa (.int .i64 (2*((m:Nat):Int))) 99 rfl kj (Qai (u:=.int .i64 (IntKind.i64.wrap (2*(nth (nt.n.ms) (k))))) kj (congrArg (Value.int .i64) (by rw [hm]; exact IntWalk.i64_in _ (by omega)))) ?_
     refine Qaa (.int .i64 ((L:Nat):Int)) 100 rfl kj kj ?_
     refine Qal (.bool false) 61 #[.int .i64 ((2*j+1:Nat):Int),.int .i64 (2*((m:Nat):Int)),.int .i64 ((L:Nat):Int)] 101 rfl kj kj (Qb9 _ _ _ false hq.2.2.2 _) fun W7 e7=>?_
     have x7:Ext w W7:=Ext.tr x6 e7
     refine Qaa (.bool false) 102 rfl kj kj ?_
     refine Qaa (.bool false) 103 rfl kj kj ?_
     refine Qad 104 rfl kj ?_
     refine Qad 105 rfl kj ?_
     refine Qad 106 rfl kj ?_
     refine Qad 107 rfl kj ?_
     refine Qad 108 rfl kj ?_
     refine Qad 109 rfl kj ?_
     refine Qad 110 rfl kj ?_
     refine Qad 111 rfl kj ?_
     refine Qaa (.bool false) 112 rfl kj kj ?_
     refine Qae ?_
     refine hK28 _ _ ?_
     refine cond_false kj ?_
     refine wp_skip ?_
     refine hK27 _ _ ?_
     refine Qab ?_
     refine Qaa (.int .i64 ((2*j+1:Nat):Int)) 78 rfl kj kj ?_
     refine Qaa (.int .i64 (((2*(j+1)+1:Nat):Int))) 79 rfl kj (Qai (u:=.int .i64 (IntKind.i64.wrap (((2*j+1:Nat):Int)+2))) kj (congrArg (Value.int .i64) ((IntWalk.i64_in _ (by omega)).trans (by omega)))) ?_
     refine Qaa (.int .i64 (((2*(j+1)+1:Nat):Int))) 10 rfl kj kj ?_
     refine Qae ?_
     have y4_6:Ext W4 W6:=(Rely.Ext.trans e5 e6)
     have y4_7:Ext W4 W7:=(Rely.Ext.trans y4_6 e7)
     repeat (first | with_reducible refine goX1 ?_ | with_reducible refine goX2 ?_ | with_reducible refine goX3 ?_)
     exact Qas (j+1) ⟨rfl,rfl,rfl,rfl,rfl,rfl,rfl,trivial⟩ ⟨(by omega),(fun j2 hj=>by by_cases e:j2=j; (rw [e]; exact hyk); exact hys j2 (by omega)),y4_7,x7⟩ (by show ts.length-(j+1)<ts.length-j; omega)
    ·skip
     have hyk:((2*j+1:Nat):Int)≠((x:Nat):Int)→(ndi ts (2*j+1)).n.us=true→abv ((x:Nat):Int) ((2*j+1:Nat):Int) ((L:Nat):Int)=true→abv ((2*j+1:Nat):Int) (2*((m:Nat):Int)) ((L:Nat):Int)=true→((m:Nat):Int)∈(ndi ts (2*j+1)).n.ms:=fun h1 h2 h3 h4=>by rw [←hm,←eny]; exact hq.2.2.2.2
     refine Qab ?_
     refine Qaa (.int .i64 ((2*j+1:Nat):Int)) 80 rfl kj kj ?_
     refine Qaa (.int .i64 ((x:Nat):Int)) 81 rfl kj kj ?_
     refine Qaa (.bool true) 82 rfl kj (Qai (u:=.bool ((((2*j+1:Nat):Int) != ((x:Nat):Int)))) kj (congrArg Value.bool (bne_iff_ne.2 (by omega)))) ?_
     refine Qaa (.bool true) 83 rfl kj kj ?_
     refine Qaa (.slice a_t ts.length c_t) 84 rfl kj kj ?_
     refine Qaa (.int .i64 ((2*j+1:Nat):Int)) 85 rfl kj kj ?_
     refine Qaa (.pointer (some ⟨gyT,oyT+(2*j+1)*99,none⟩)) 86 rfl kj (Qao 23 _ _ .i64 (2*j+1) gyT oyT ts.length c_t 41 99 a_t (hay (by omega)) rfl kj kj kj kj (by omega)) ?_
     refine Qaa (.pointer (some ⟨gyT,oyT+(2*j+1)*99,none⟩)) 87 rfl kj kj ?_
     refine Qaa (.bool true) 88 rfl kj (Qaj 4 _ _ (.bool true) ((NdAt.at3 hny).1.trans (congrArg (fun z=>some (Value.bool z)) hq.2.1)) rfl kj kj) ?_
     refine Qaa (.bool true) 89 rfl kj kj ?_
     refine Qaa (.bool true) 90 rfl kj kj ?_
     refine Qaa (.int .i64 ((x:Nat):Int)) 91 rfl kj kj ?_
     refine Qaa (.int .i64 ((2*j+1:Nat):Int)) 92 rfl kj kj ?_
     refine Qaa (.int .i64 ((L:Nat):Int)) 93 rfl kj kj ?_
     refine Qal (.bool true) 61 #[.int .i64 ((x:Nat):Int),.int .i64 ((2*j+1:Nat):Int),.int .i64 ((L:Nat):Int)] 94 rfl kj kj (Qb9 _ _ _ true hq.2.2.1 _) fun W6 e6=>?_
     have x6:Ext w W6:=Ext.tr xx2 e6
     refine Qaa (.bool true) 95 rfl kj kj ?_
     refine Qaa (.bool true) 96 rfl kj kj ?_
     refine Qaa (.int .i64 ((2*j+1:Nat):Int)) 97 rfl kj kj ?_
     refine Qaa (.int .i64 (nth (nt.n.ms) (k))) 98 rfl kj kj ?_
     refine Qaa (.int .i64 (2*((m:Nat):Int))) 99 rfl kj (Qai (u:=.int .i64 (IntKind.i64.wrap (2*(nth (nt.n.ms) (k))))) kj (congrArg (Value.int .i64) (by rw [hm]; exact IntWalk.i64_in _ (by omega)))) ?_
     refine Qaa (.int .i64 ((L:Nat):Int)) 100 rfl kj kj ?_
     refine Qal (.bool true) 61 #[.int .i64 ((2*j+1:Nat):Int),.int .i64 (2*((m:Nat):Int)),.int .i64 ((L:Nat):Int)] 101 rfl kj kj (Qb9 _ _ _ true hq.2.2.2.1 _) fun W7 e7=>?_
     have x7:Ext w W7:=Ext.tr x6 e7
     refine Qaa (.bool true) 102 rfl kj kj ?_
     refine Qaa (.bool true) 103 rfl kj kj ?_
     refine Qaa (.int .i64 (nth (nt.n.ms) (k))) 104 rfl kj kj ?_
     refine Qaa (.slice a_t ts.length c_t) 105 rfl kj kj ?_
     refine Qaa (.int .i64 ((2*j+1:Nat):Int)) 106 rfl kj kj ?_
     refine Qaa (.pointer (some ⟨gyT,oyT+(2*j+1)*99,none⟩)) 107 rfl kj (Qao 23 _ _ .i64 (2*j+1) gyT oyT ts.length c_t 41 99 a_t (hay (by omega)) rfl kj kj kj kj (by omega)) ?_
     refine Qaa (.pointer (some ⟨gyT,oyT+(2*j+1)*99+98,none⟩)) 108 rfl kj kj ?_
     have y5_6:Ext V2 W6:=(Rely.Ext.trans (Rely.Ext.refl V2) e6)
     have y5_7:Ext V2 W7:=(Rely.Ext.trans y5_6 e7)
     refine Qaa (.slice ny.a ny.n.ms.length ny.c) 109 rfl kj (Qaj 36 _ _ (.slice ny.a ny.n.ms.length ny.c) (NdAt.at3 (NdAt.ext hny y5_7)).2.2 rfl kj kj) ?_
     refine Qal (.bool true) 34 #[.int .i64 (nth (nt.n.ms) (k)),.slice ny.a ny.n.ms.length ny.c] 110 rfl kj kj (inRb ny.n.ms (nth nt.n.ms k) ny.a ny.c _ _ (eny▸hmt _ (by omega)) (RdK.here (RdK.ext rdy y5_7)) true (decide_eq_true hq.2.2.2.2)) fun W8 e8=>?_
     have x8:Ext w W8:=Ext.tr x7 e8
     refine Qaa (.bool false) 111 rfl kj kj ?_
     refine Qaa (.bool false) 112 rfl kj kj ?_
     refine Qae ?_
     refine hK28 _ _ ?_
     refine cond_false kj ?_
     refine wp_skip ?_
     refine hK27 _ _ ?_
     refine Qab ?_
     refine Qaa (.int .i64 ((2*j+1:Nat):Int)) 78 rfl kj kj ?_
     refine Qaa (.int .i64 (((2*(j+1)+1:Nat):Int))) 79 rfl kj (Qai (u:=.int .i64 (IntKind.i64.wrap (((2*j+1:Nat):Int)+2))) kj (congrArg (Value.int .i64) ((IntWalk.i64_in _ (by omega)).trans (by omega)))) ?_
     refine Qaa (.int .i64 (((2*(j+1)+1:Nat):Int))) 10 rfl kj kj ?_
     refine Qae ?_
     have y4_6:Ext W4 W6:=(Rely.Ext.trans e5 e6)
     have y4_7:Ext W4 W7:=(Rely.Ext.trans y4_6 e7)
     have y4_8:Ext W4 W8:=(Rely.Ext.trans y4_7 e8)
     repeat (first | with_reducible refine goX1 ?_ | with_reducible refine goX2 ?_ | with_reducible refine goX3 ?_)
     exact Qas (j+1) ⟨rfl,rfl,rfl,rfl,rfl,rfl,rfl,trivial⟩ ⟨(by omega),(fun j2 hj=>by by_cases e:j2=j; (rw [e]; exact hyk); exact hys j2 (by omega)),y4_8,x8⟩ (by show ts.length-(j+1)<ts.length-j; omega)
    ·skip
     have hb:msOk ts ((L:Nat):Int) ((x:Nat):Int) nt.n.ms k=false:=by
      unfold msOk
      rw [hm,QeK (y:=2*j+1) hxn (by omega) (by omega) hQ.2.2 hyn (by omega) (by omega) hq.2.2.1 hq.2.2.2.1 (eny▸hq.2.1) (by rw [←hm,←eny]; exact hq.2.2.2.2),Bool.and_false]
     refine Qab ?_
     refine Qaa (.int .i64 ((2*j+1:Nat):Int)) 80 rfl kj kj ?_
     refine Qaa (.int .i64 ((x:Nat):Int)) 81 rfl kj kj ?_
     refine Qaa (.bool true) 82 rfl kj (Qai (u:=.bool ((((2*j+1:Nat):Int) != ((x:Nat):Int)))) kj (congrArg Value.bool (bne_iff_ne.2 (by omega)))) ?_
     refine Qaa (.bool true) 83 rfl kj kj ?_
     refine Qaa (.slice a_t ts.length c_t) 84 rfl kj kj ?_
     refine Qaa (.int .i64 ((2*j+1:Nat):Int)) 85 rfl kj kj ?_
     refine Qaa (.pointer (some ⟨gyT,oyT+(2*j+1)*99,none⟩)) 86 rfl kj (Qao 23 _ _ .i64 (2*j+1) gyT oyT ts.length c_t 41 99 a_t (hay (by omega)) rfl kj kj kj kj (by omega)) ?_
     refine Qaa (.pointer (some ⟨gyT,oyT+(2*j+1)*99,none⟩)) 87 rfl kj kj ?_
     refine Qaa (.bool true) 88 rfl kj (Qaj 4 _ _ (.bool true) ((NdAt.at3 hny).1.trans (congrArg (fun z=>some (Value.bool z)) hq.2.1)) rfl kj kj) ?_
     refine Qaa (.bool true) 89 rfl kj kj ?_
     refine Qaa (.bool true) 90 rfl kj kj ?_
     refine Qaa (.int .i64 ((x:Nat):Int)) 91 rfl kj kj ?_
     refine Qaa (.int .i64 ((2*j+1:Nat):Int)) 92 rfl kj kj ?_
     refine Qaa (.int .i64 ((L:Nat):Int)) 93 rfl kj kj ?_
     refine Qal (.bool true) 61 #[.int .i64 ((x:Nat):Int),.int .i64 ((2*j+1:Nat):Int),.int .i64 ((L:Nat):Int)] 94 rfl kj kj (Qb9 _ _ _ true hq.2.2.1 _) fun W6 e6=>?_
     have x6:Ext w W6:=Ext.tr xx2 e6
     refine Qaa (.bool true) 95 rfl kj kj ?_
     refine Qaa (.bool true) 96 rfl kj kj ?_
     refine Qaa (.int .i64 ((2*j+1:Nat):Int)) 97 rfl kj kj ?_
     refine Qaa (.int .i64 (nth (nt.n.ms) (k))) 98 rfl kj kj ?_
     refine Qaa (.int .i64 (2*((m:Nat):Int))) 99 rfl kj (Qai (u:=.int .i64 (IntKind.i64.wrap (2*(nth (nt.n.ms) (k))))) kj (congrArg (Value.int .i64) (by rw [hm]; exact IntWalk.i64_in _ (by omega)))) ?_
     refine Qaa (.int .i64 ((L:Nat):Int)) 100 rfl kj kj ?_
     refine Qal (.bool true) 61 #[.int .i64 ((2*j+1:Nat):Int),.int .i64 (2*((m:Nat):Int)),.int .i64 ((L:Nat):Int)] 101 rfl kj kj (Qb9 _ _ _ true hq.2.2.2.1 _) fun W7 e7=>?_
     have x7:Ext w W7:=Ext.tr x6 e7
     refine Qaa (.bool true) 102 rfl kj kj ?_
     refine Qaa (.bool true) 103 rfl kj kj ?_
     refine Qaa (.int .i64 (nth (nt.n.ms) (k))) 104 rfl kj kj ?_
     refine Qaa (.slice a_t ts.length c_t) 105 rfl kj kj ?_
     refine Qaa (.int .i64 ((2*j+1:Nat):Int)) 106 rfl kj kj ?_
     refine Qaa (.pointer (some ⟨gyT,oyT+(2*j+1)*99,none⟩)) 107 rfl kj (Qao 23 _ _ .i64 (2*j+1) gyT oyT ts.length c_t 41 99 a_t (hay (by omega)) rfl kj kj kj kj (by omega)) ?_
     refine Qaa (.pointer (some ⟨gyT,oyT+(2*j+1)*99+98,none⟩)) 108 rfl kj kj ?_
     have y5_6:Ext V2 W6:=(Rely.Ext.trans (Rely.Ext.refl V2) e6)
     have y5_7:Ext V2 W7:=(Rely.Ext.trans y5_6 e7)
     refine Qaa (.slice ny.a ny.n.ms.length ny.c) 109 rfl kj (Qaj 36 _ _ (.slice ny.a ny.n.ms.length ny.c) (NdAt.at3 (NdAt.ext hny y5_7)).2.2 rfl kj kj) ?_
     refine Qal (.bool false) 34 #[.int .i64 (nth (nt.n.ms) (k)),.slice ny.a ny.n.ms.length ny.c] 110 rfl kj kj (inRb ny.n.ms (nth nt.n.ms k) ny.a ny.c _ _ (eny▸hmt _ (by omega)) (RdK.here (RdK.ext rdy y5_7)) false (decide_eq_false hq.2.2.2.2)) fun W8 e8=>?_
     have x8:Ext w W8:=Ext.tr x7 e8
     refine Qaa (.bool true) 111 rfl kj kj ?_
     refine Qaa (.bool true) 112 rfl kj kj ?_
     refine Qae ?_
     refine hK28 _ _ ?_
     refine cond_true kj ?_
     refine wp_seq_k fun K29 hK29=>?_
     refine Qab ?_
     refine Qaa (.bool false) 6 rfl kj kj ?_
     refine Qae ?_
     refine hK29 _ _ ?_
     refine wp_ret ?_
     repeat (first | with_reducible refine goR1 ?_ | with_reducible refine goR2 ?_)
     exact (show bodyPost _ _ _ .ret _ _ from ret1 (.bool false) rfl (Qam kj) ⟨congrArg (fun z=>Ending.returned (.bool z)) ((Qbi h h1 h2).trans (QcP (k:=k) (by rw [←ent]; exact hlt28) (by rw [←ent]; exact hb))).symm,x8⟩)
   ·skip
    have hy77:¬ 2*j+1<ts.length:=by have:=of_decide_eq_false c26; omega
    refine wp_exit ?_
    refine hK12 _ _ ?_
    refine Qab ?_
    refine Qaa (.int .i64 ((k:Nat):Int)) 29 rfl kj kj ?_
    refine Qaa (.int .i64 ((k+1:Nat):Int)) 30 rfl kj (Qai (u:=.int .i64 (IntKind.i64.wrap (((k:Nat):Int)+1))) kj (congrArg (Value.int .i64) (i64n _ _ (by omega) (by omega)))) ?_
    refine Qaa (.int .i64 ((k+1:Nat):Int)) 8 rfl kj kj ?_
    refine Qae ?_
    have hb:msOk ts ((L:Nat):Int) ((x:Nat):Int) nt.n.ms k=true:=hb0.trans (QdO hxn (by omega) (by omega) hQ.2.2 (by rw [←enz]; exact hzu) (fun y hy hyo=>by obtain ⟨j2,rfl⟩:∃ j2,y=2*j2+1:=⟨y/2,by omega⟩; exact hys j2 (by omega)))
    have y2_4:Ext W2 W4:=(Rely.Ext.trans e3 e4)
    have y2_5:Ext W2 V2:=(Rely.Ext.trans y2_4 e5)
    repeat (first | with_reducible refine goX1 ?_ | with_reducible refine goX2 ?_ | with_reducible refine goX3 ?_)
    exact Qas (k+1) ⟨rfl,rfl,rfl,rfl,rfl,trivial⟩ ⟨(by omega),(fun j2 hj=>by by_cases e:j2=k; (rw [e]; exact hb); exact hall j2 (by omega)),y2_5,xx2⟩ (by show nt.n.ms.length-(k+1)<nt.n.ms.length-k; omega)
  ·skip
   obtain ⟨m,hm⟩:∃ m:Nat,nth nt.n.ms k=((m:Nat):Int):=⟨(nth nt.n.ms k).toNat,by omega⟩
   have hml2:m<L:=by omega
   have hb0:msOk ts ((L:Nat):Int) ((x:Nat):Int) nt.n.ms k=Qbd ts ((L:Nat):Int) ((x:Nat):Int) ((m:Nat):Int):=by unfold msOk; rw [decide_eq_true hQ.1.2,hm,Bool.or_true,Bool.true_and]
   obtain ⟨gzT,ozT,haz,hnzs⟩:=TrAt.ext ht xx1
   have hnz:=hnzs (2*m) (by omega)
   obtain ⟨nz,enz⟩:∃ z,z=ndi ts (2*m):=⟨_,rfl⟩
   rw [←enz] at hnz
   have okz:=hnz.ok
   have rdz:=hnz.rd
   have hzu:nz.n.us=true:=by rw [enz]; have h9:=hQ.2.1; rw [hm] at h9; exact h9
   have habz:abv ((x:Nat):Int) (2*((m:Nat):Int)) ((L:Nat):Int)=true:=by have h9:=hQ.2.2; rw [hm] at h9; exact h9
   have hQ1:=hQ.1
   replace hQ:True∧True∧abv ((x:Nat):Int) (2*((m:Nat):Int)) ((L:Nat):Int)=true:=⟨trivial,trivial,habz⟩
   refine Qab ?_
   refine Qaa (.int .i64 (nth (nt.n.ms) (k))) 36 rfl kj kj ?_
   refine Qaa (.bool false) 37 rfl kj (Qai (u:=.bool (decide ((nth (nt.n.ms) (k))<0))) kj (congrArg Value.bool (decide_eq_false (by omega)))) ?_
   refine Qaa (.bool false) 38 rfl kj kj ?_
   refine Qaa (.int .i64 (nth (nt.n.ms) (k))) 39 rfl kj kj ?_
   refine Qaa (.int .i64 ((L:Nat):Int)) 40 rfl kj kj ?_
   refine Qaa (.bool false) 41 rfl kj (Qai (u:=.bool (decide ((nth (nt.n.ms) (k))≥((L:Nat):Int)))) kj (congrArg Value.bool (decide_eq_false (by omega)))) ?_
   refine Qaa (.bool false) 42 rfl kj kj ?_
   refine Qaa (.bool false) 43 rfl kj kj ?_
   refine Qaa (.int .i64 ((k:Nat):Int)) 44 rfl kj kj ?_
   refine Qaa (.bool true) 45 rfl kj (Qai (u:=.bool (decide (((k:Nat):Int)>0))) kj (congrArg Value.bool (decide_eq_true (by omega)))) ?_
   refine Qaa (.bool true) 46 rfl kj kj ?_
   refine Qaa (.int .i64 (nth (nt.n.ms) (k))) 47 rfl kj kj ?_
   refine Qaa (.pointer (some ⟨g3,98,none⟩)) 48 rfl kj kj ?_
   refine Qaa (.slice nt.a nt.n.ms.length nt.c) 49 rfl kj (Qag 36 _ g3 98 41 _ (.slice nt.a nt.n.ms.length nt.c) _ r3_3 rfl kj (Qak [#[.bool nt.n.us],#[.int .i64 nt.n.nm],ints .u8 (nt.n.key),ints .u8 (nt.n.sg),ints .u8 (nt.n.pa)] [#[.slice nt.a nt.n.ms.length nt.c]] [] 98 (by rw [Qac,Qac,Qac,Qac,Qac]; simp only [qS,cat,((Qaf _ _).trans okt.gl),((Qaf _ _).trans okt.kl),((Qaf _ _).trans okt.pl)]; rfl) 0 _ rfl) kj) ?_
   refine Qaa (.int .i64 ((k:Nat):Int)) 50 rfl kj kj ?_
   refine Qaa (.int .i64 ((k-1:Nat):Int)) 51 rfl kj (Qai (u:=.int .i64 (IntKind.i64.wrap (((k:Nat):Int)-1))) kj (congrArg (Value.int .i64) (i64n _ _ (by omega) (by omega)))) ?_
   refine Qaa (.pointer (some ⟨gcx_11,ocx_11+(k-1),none⟩)) 52 rfl kj (QaA 36 _ _ .i64 (k-1) gcx_11 ocx_11 nt.n.ms.length nt.c 3 nt.a _ hax_11 rfl rfl kj kj kj kj (Nat.lt_of_lt_of_eq (show k-1<nt.n.ms.length by omega) hnx_11.symm)) ?_
   refine Qaa (.int .i64 (nth (nt.n.ms) ((k-1)))) 53 rfl kj (Qaj 3 _ _ (.int .i64 (nth (nt.n.ms) ((k-1)))) (hcx_11 (k-1) (Nat.lt_of_lt_of_eq (show k-1<nt.n.ms.length by omega) hnx_11.symm)) rfl kj kj) ?_
   refine Qaa (.bool false) 54 rfl kj (Qai (u:=.bool (decide ((nth (nt.n.ms) (k))≤(nth (nt.n.ms) ((k-1)))))) kj (congrArg Value.bool (decide_eq_false (by omega)))) ?_
   refine Qaa (.bool false) 55 rfl kj kj ?_
   refine Qaa (.bool false) 56 rfl kj kj ?_
   refine Qaa (.bool false) 57 rfl kj kj ?_
   refine Qaa (.slice a_t ts.length c_t) 58 rfl kj kj ?_
   refine Qaa (.int .i64 (nth (nt.n.ms) (k))) 59 rfl kj kj ?_
   refine Qaa (.int .i64 (((2*m:Nat):Int))) 60 rfl kj (Qai (u:=.int .i64 (IntKind.i64.wrap (2*(nth (nt.n.ms) (k))))) kj (congrArg (Value.int .i64) (by rw [hm]; exact ((IntWalk.i64_in _ (by omega)).trans (by omega))))) ?_
   refine Qaa (.pointer (some ⟨gzT,ozT+(2*m)*99,none⟩)) 61 rfl kj (Qao 23 _ _ .i64 (2*m) gzT ozT ts.length c_t 41 99 a_t (haz (by omega)) rfl kj kj kj kj (by omega)) ?_
   refine Qaa (.pointer (some ⟨gzT,ozT+(2*m)*99,none⟩)) 62 rfl kj kj ?_
   refine Qaa (.bool true) 63 rfl kj (Qaj 4 _ _ (.bool true) ((NdAt.at3 hnz).1.trans (congrArg (fun z=>some (Value.bool z)) hzu)) rfl kj kj) ?_
   refine Qaa (.bool false) 64 rfl kj kj ?_
   refine Qaa (.bool false) 65 rfl kj kj ?_
   refine Qaa (.bool false) 66 rfl kj kj ?_
   refine Qaa (.int .i64 ((x:Nat):Int)) 67 rfl kj kj ?_
   refine Qaa (.int .i64 (nth (nt.n.ms) (k))) 68 rfl kj kj ?_
   refine Qaa (.int .i64 (2*((m:Nat):Int))) 69 rfl kj (Qai (u:=.int .i64 (IntKind.i64.wrap (2*(nth (nt.n.ms) (k))))) kj (congrArg (Value.int .i64) (by rw [hm]; exact IntWalk.i64_in _ (by omega)))) ?_
   refine Qaa (.int .i64 ((L:Nat):Int)) 70 rfl kj kj ?_
   refine Qal (.bool true) 61 #[.int .i64 ((x:Nat):Int),.int .i64 (2*((m:Nat):Int)),.int .i64 ((L:Nat):Int)] 71 rfl kj kj (Qb9 _ _ _ true habz _) fun W4 e4=>?_
   have x4:Ext w W4:=Ext.tr xx1 e4
   refine Qaa (.bool false) 72 rfl kj kj ?_
   refine Qaa (.bool false) 73 rfl kj kj ?_
   refine Qae ?_
   refine hK15 _ _ ?_
   refine cond_false kj ?_
   refine wp_skip ?_
   refine hK14 _ _ ?_
   refine wp_seq_k fun K30 hK30=>?_
   refine Qab ?_
   refine Qaa (.int .i64 1) 10 rfl kj kj ?_
   refine Qae ?_
   refine hK30 _ _ ?_
   refine wp_block ?_
   refine Qaz (fun (s3:Nat)=>[(0,.slice a_t ts.length c_t),(1,.int .i64 ((x:Nat):Int)),(2,.int .i64 ((L:Nat):Int)),(7,.pointer (some ⟨g3,0,none⟩)),(8,.int .i64 ((k:Nat):Int)),(9,.int .i64 (nth (nt.n.ms) (k))),(10,.int .i64 ((2*s3+1:Nat):Int))]) (fun (s3:Nat) W=>(s3≤100000)∧(∀ j2,j2<s3→((2*j2+1:Nat):Int)≠((x:Nat):Int)→(ndi ts (2*j2+1)).n.us=true→abv ((x:Nat):Int) ((2*j2+1:Nat):Int) ((L:Nat):Int)=true→abv ((2*j2+1:Nat):Int) (2*((m:Nat):Int)) ((L:Nat):Int)=true→((m:Nat):Int)∈(ndi ts (2*j2+1)).n.ms)∧(Ext W4 W)∧(Ext w W)) (fun (s3:Nat)=>ts.length-s3) 0 ⟨rfl,rfl,rfl,rfl,rfl,rfl,rfl,trivial⟩ ⟨(Nat.zero_le _),(fun j2 hj=>absurd hj (Nat.not_lt_zero j2)),(Rely.Ext.refl W4),x4⟩ fun s3 X3 V3 hI3=>?_
   obtain ⟨j,hs3⟩:∃ z,z=s3:=⟨_,rfl⟩
   subst hs3
   obtain ⟨hj,hys,kk3,xx3⟩:=hI3
   replace hj:j≤100000:=hj
   replace hys:∀ j2,j2<j→((2*j2+1:Nat):Int)≠((x:Nat):Int)→(ndi ts (2*j2+1)).n.us=true→abv ((x:Nat):Int) ((2*j2+1:Nat):Int) ((L:Nat):Int)=true→abv ((2*j2+1:Nat):Int) (2*((m:Nat):Int)) ((L:Nat):Int)=true→((m:Nat):Int)∈(ndi ts (2*j2+1)).n.ms:=hys
   replace kk3:Ext W4 V3:=kk3
   replace xx3:Ext w V3:=xx3
   have e5:=kk3
   refine wp_seq_k fun K31 hK31=>?_
   refine wp_seq_k fun K32 hK32=>?_
   refine Qab ?_
   refine Qaa (.int .i64 ((2*j+1:Nat):Int)) 74 rfl kj kj ?_
   refine Qaa (.slice a_t ts.length c_t) 75 rfl kj kj ?_
   refine Qaa (.int .i64 ((ts.length:Nat):Int)) 76 rfl kj kj ?_
   refine Qaa (.bool (decide (((2*j+1:Nat):Int)<((ts.length:Nat):Int)))) 77 rfl kj kj ?_
   refine Qae ?_
   refine hK32 _ _ ?_
   refine Qat (t:=decide (((2*j+1:Nat):Int)<((ts.length:Nat):Int))) kj (fun c33=>?_) (fun c33=>?_)
   ·skip
    have hy77:2*j+1<ts.length:=by have:=of_decide_eq_true c33; omega
    refine wp_skip ?_
    refine hK31 _ _ ?_
    refine wp_seq_k fun K34 hK34=>?_
    refine wp_block ?_
    refine wp_seq_k fun K35 hK35=>?_
    obtain ⟨gyT,oyT,hay,hnys⟩:=TrAt.ext ht xx3
    have hny:=hnys (2*j+1) (by omega)
    obtain ⟨ny,eny⟩:∃ z,z=ndi ts (2*j+1):=⟨_,rfl⟩
    rw [←eny] at hny
    have oky:=hny.ok
    have rdy:=hny.rd
    have hyn:Qau ((2*j+1:Nat):Int) ((L:Nat):Int)=true:=Qbb hTr (by omega)
    rcases (show (2*j+1=x)∨(2*j+1≠x∧ny.n.us=false)∨(2*j+1≠x∧ny.n.us=true∧abv ((x:Nat):Int) ((2*j+1:Nat):Int) ((L:Nat):Int)=false)∨(2*j+1≠x∧ny.n.us=true∧abv ((x:Nat):Int) ((2*j+1:Nat):Int) ((L:Nat):Int)=true∧abv ((2*j+1:Nat):Int) (2*((m:Nat):Int)) ((L:Nat):Int)=false)∨(2*j+1≠x∧ny.n.us=true∧abv ((x:Nat):Int) ((2*j+1:Nat):Int) ((L:Nat):Int)=true∧abv ((2*j+1:Nat):Int) (2*((m:Nat):Int)) ((L:Nat):Int)=true∧nth nt.n.ms k∈ny.n.ms)∨(2*j+1≠x∧ny.n.us=true∧abv ((x:Nat):Int) ((2*j+1:Nat):Int) ((L:Nat):Int)=true∧abv ((2*j+1:Nat):Int) (2*((m:Nat):Int)) ((L:Nat):Int)=true∧nth nt.n.ms k∉ny.n.ms) from Qj9 _ _ _ _ _) with hq | hq | hq | hq | hq | hq
    ·skip
     have hyk:((2*j+1:Nat):Int)≠((x:Nat):Int)→(ndi ts (2*j+1)).n.us=true→abv ((x:Nat):Int) ((2*j+1:Nat):Int) ((L:Nat):Int)=true→abv ((2*j+1:Nat):Int) (2*((m:Nat):Int)) ((L:Nat):Int)=true→((m:Nat):Int)∈(ndi ts (2*j+1)).n.ms:=fun h1 h2 h3 h4=>absurd (by omega) h1
     refine Qab ?_
     refine Qaa (.int .i64 ((2*j+1:Nat):Int)) 80 rfl kj kj ?_
     refine Qaa (.int .i64 ((x:Nat):Int)) 81 rfl kj kj ?_
     refine Qaa (.bool false) 82 rfl kj (Qai (u:=.bool ((((2*j+1:Nat):Int) != ((x:Nat):Int)))) kj (congrArg Value.bool (bne_eq_false_iff_eq.2 (by omega)))) ?_
     refine Qaa (.bool false) 83 rfl kj kj ?_
     refine Qad 84 rfl kj ?_
     refine Qad 85 rfl kj ?_
     refine Qad 86 rfl kj ?_
     refine Qad 87 rfl kj ?_
     refine Qad 88 rfl kj ?_
     refine Qaa (.bool false) 89 rfl kj kj ?_
     refine Qaa (.bool false) 90 rfl kj kj ?_
     refine Qad 91 rfl kj ?_
     refine Qad 92 rfl kj ?_
     refine Qad 93 rfl kj ?_
     refine Qad 94 rfl kj ?_
     refine Qaa (.bool false) 95 rfl kj kj ?_
     refine Qaa (.bool false) 96 rfl kj kj ?_
     refine Qad 97 rfl kj ?_
     refine Qad 98 rfl kj ?_
     refine Qad 99 rfl kj ?_
     refine Qad 100 rfl kj ?_
     refine Qad 101 rfl kj ?_
     refine Qaa (.bool false) 102 rfl kj kj ?_
     refine Qaa (.bool false) 103 rfl kj kj ?_
     refine Qad 104 rfl kj ?_
     refine Qad 105 rfl kj ?_
     refine Qad 106 rfl kj ?_
     refine Qad 107 rfl kj ?_
     refine Qad 108 rfl kj ?_
     refine Qad 109 rfl kj ?_
     refine Qad 110 rfl kj ?_
     refine Qad 111 rfl kj ?_
     refine Qaa (.bool false) 112 rfl kj kj ?_
     refine Qae ?_
     refine hK35 _ _ ?_
     refine cond_false kj ?_
     refine wp_skip ?_
     refine hK34 _ _ ?_
     refine Qab ?_
     refine Qaa (.int .i64 ((2*j+1:Nat):Int)) 78 rfl kj kj ?_
     refine Qaa (.int .i64 (((2*(j+1)+1:Nat):Int))) 79 rfl kj (Qai (u:=.int .i64 (IntKind.i64.wrap (((2*j+1:Nat):Int)+2))) kj (congrArg (Value.int .i64) ((IntWalk.i64_in _ (by omega)).trans (by omega)))) ?_
     refine Qaa (.int .i64 (((2*(j+1)+1:Nat):Int))) 10 rfl kj kj ?_
     refine Qae ?_
     repeat (first | with_reducible refine goX1 ?_ | with_reducible refine goX2 ?_ | with_reducible refine goX3 ?_)
     exact Qas (j+1) ⟨rfl,rfl,rfl,rfl,rfl,rfl,rfl,trivial⟩ ⟨(by omega),(fun j2 hj=>by by_cases e:j2=j; (rw [e]; exact hyk); exact hys j2 (by omega)),e5,xx3⟩ (by show ts.length-(j+1)<ts.length-j; omega)
    ·skip
     have hyk:((2*j+1:Nat):Int)≠((x:Nat):Int)→(ndi ts (2*j+1)).n.us=true→abv ((x:Nat):Int) ((2*j+1:Nat):Int) ((L:Nat):Int)=true→abv ((2*j+1:Nat):Int) (2*((m:Nat):Int)) ((L:Nat):Int)=true→((m:Nat):Int)∈(ndi ts (2*j+1)).n.ms:=fun h1 h2 h3 h4=>by rw [←eny,hq.2] at h2; cases h2
     refine Qab ?_
     refine Qaa (.int .i64 ((2*j+1:Nat):Int)) 80 rfl kj kj ?_
     refine Qaa (.int .i64 ((x:Nat):Int)) 81 rfl kj kj ?_
     refine Qaa (.bool true) 82 rfl kj (Qai (u:=.bool ((((2*j+1:Nat):Int) != ((x:Nat):Int)))) kj (congrArg Value.bool (bne_iff_ne.2 (by omega)))) ?_
     refine Qaa (.bool true) 83 rfl kj kj ?_
     refine Qaa (.slice a_t ts.length c_t) 84 rfl kj kj ?_
     refine Qaa (.int .i64 ((2*j+1:Nat):Int)) 85 rfl kj kj ?_
     refine Qaa (.pointer (some ⟨gyT,oyT+(2*j+1)*99,none⟩)) 86 rfl kj (Qao 23 _ _ .i64 (2*j+1) gyT oyT ts.length c_t 41 99 a_t (hay (by omega)) rfl kj kj kj kj (by omega)) ?_
     refine Qaa (.pointer (some ⟨gyT,oyT+(2*j+1)*99,none⟩)) 87 rfl kj kj ?_
     refine Qaa (.bool false) 88 rfl kj (Qaj 4 _ _ (.bool false) ((NdAt.at3 hny).1.trans (congrArg (fun z=>some (Value.bool z)) hq.2)) rfl kj kj) ?_
     refine Qaa (.bool false) 89 rfl kj kj ?_
     refine Qaa (.bool false) 90 rfl kj kj ?_
     refine Qad 91 rfl kj ?_
     refine Qad 92 rfl kj ?_
     refine Qad 93 rfl kj ?_
     refine Qad 94 rfl kj ?_
     refine Qaa (.bool false) 95 rfl kj kj ?_
     refine Qaa (.bool false) 96 rfl kj kj ?_
     refine Qad 97 rfl kj ?_
     refine Qad 98 rfl kj ?_
     refine Qad 99 rfl kj ?_
     refine Qad 100 rfl kj ?_
     refine Qad 101 rfl kj ?_
     refine Qaa (.bool false) 102 rfl kj kj ?_
     refine Qaa (.bool false) 103 rfl kj kj ?_
     refine Qad 104 rfl kj ?_
     refine Qad 105 rfl kj ?_
     refine Qad 106 rfl kj ?_
     refine Qad 107 rfl kj ?_
     refine Qad 108 rfl kj ?_
     refine Qad 109 rfl kj ?_
     refine Qad 110 rfl kj ?_
     refine Qad 111 rfl kj ?_
     refine Qaa (.bool false) 112 rfl kj kj ?_
     refine Qae ?_
     refine hK35 _ _ ?_
     refine cond_false kj ?_
     refine wp_skip ?_
     refine hK34 _ _ ?_
     refine Qab ?_
     refine Qaa (.int .i64 ((2*j+1:Nat):Int)) 78 rfl kj kj ?_
     refine Qaa (.int .i64 (((2*(j+1)+1:Nat):Int))) 79 rfl kj (Qai (u:=.int .i64 (IntKind.i64.wrap (((2*j+1:Nat):Int)+2))) kj (congrArg (Value.int .i64) ((IntWalk.i64_in _ (by omega)).trans (by omega)))) ?_
     refine Qaa (.int .i64 (((2*(j+1)+1:Nat):Int))) 10 rfl kj kj ?_
     refine Qae ?_
     repeat (first | with_reducible refine goX1 ?_ | with_reducible refine goX2 ?_ | with_reducible refine goX3 ?_)
     exact Qas (j+1) ⟨rfl,rfl,rfl,rfl,rfl,rfl,rfl,trivial⟩ ⟨(by omega),(fun j2 hj=>by by_cases e:j2=j; (rw [e]; exact hyk); exact hys j2 (by omega)),e5,xx3⟩ (by show ts.length-(j+1)<ts.length-j; omega)
    ·skip
     have hyk:((2*j+1:Nat):Int)≠((x:Nat):Int)→(ndi ts (2*j+1)).n.us=true→abv ((x:Nat):Int) ((2*j+1:Nat):Int) ((L:Nat):Int)=true→abv ((2*j+1:Nat):Int) (2*((m:Nat):Int)) ((L:Nat):Int)=true→((m:Nat):Int)∈(ndi ts (2*j+1)).n.ms:=fun h1 h2 h3 h4=>by rw [hq.2.2] at h3; cases h3
     refine Qab ?_
     refine Qaa (.int .i64 ((2*j+1:Nat):Int)) 80 rfl kj kj ?_
     refine Qaa (.int .i64 ((x:Nat):Int)) 81 rfl kj kj ?_
     refine Qaa (.bool true) 82 rfl kj (Qai (u:=.bool ((((2*j+1:Nat):Int) != ((x:Nat):Int)))) kj (congrArg Value.bool (bne_iff_ne.2 (by omega)))) ?_
     refine Qaa (.bool true) 83 rfl kj kj ?_
     refine Qaa (.slice a_t ts.length c_t) 84 rfl kj kj ?_
     refine Qaa (.int .i64 ((2*j+1:Nat):Int)) 85 rfl kj kj ?_
     refine Qaa (.pointer (some ⟨gyT,oyT+(2*j+1)*99,none⟩)) 86 rfl kj (Qao 23 _ _ .i64 (2*j+1) gyT oyT ts.length c_t 41 99 a_t (hay (by omega)) rfl kj kj kj kj (by omega)) ?_
     refine Qaa (.pointer (some ⟨gyT,oyT+(2*j+1)*99,none⟩)) 87 rfl kj kj ?_
     refine Qaa (.bool true) 88 rfl kj (Qaj 4 _ _ (.bool true) ((NdAt.at3 hny).1.trans (congrArg (fun z=>some (Value.bool z)) hq.2.1)) rfl kj kj) ?_
     refine Qaa (.bool true) 89 rfl kj kj ?_
     refine Qaa (.bool true) 90 rfl kj kj ?_
     refine Qaa (.int .i64 ((x:Nat):Int)) 91 rfl kj kj ?_
     refine Qaa (.int .i64 ((2*j+1:Nat):Int)) 92 rfl kj kj ?_
     refine Qaa (.int .i64 ((L:Nat):Int)) 93 rfl kj kj ?_
     refine Qal (.bool false) 61 #[.int .i64 ((x:Nat):Int),.int .i64 ((2*j+1:Nat):Int),.int .i64 ((L:Nat):Int)] 94 rfl kj kj (Qb9 _ _ _ false hq.2.2 _) fun W6 e6=>?_
     have x6:Ext w W6:=Ext.tr xx3 e6
     refine Qaa (.bool false) 95 rfl kj kj ?_
     refine Qaa (.bool false) 96 rfl kj kj ?_
     refine Qad 97 rfl kj ?_
     refine Qad 98 rfl kj ?_
     refine Qad 99 rfl kj ?_
     refine Qad 100 rfl kj ?_
     refine Qad 101 rfl kj ?_
     refine Qaa (.bool false) 102 rfl kj kj ?_
     refine Qaa (.bool false) 103 rfl kj kj ?_
     refine Qad 104 rfl kj ?_
     refine Qad 105 rfl kj ?_
     refine Qad 106 rfl kj ?_
     refine Qad 107 rfl kj ?_
     refine Qad 108 rfl kj ?_
     refine Qad 109 rfl kj ?_
     refine Qad 110 rfl kj ?_
     refine Qad 111 rfl kj ?_
     refine Qaa (.bool false) 112 rfl kj kj ?_
     refine Qae ?_
     refine hK35 _ _ ?_
     refine cond_false kj ?_
     refine wp_skip ?_
     refine hK34 _ _ ?_
     refine Qab ?_
     refine Qaa (.int .i64 ((2*j+1:Nat):Int)) 78 rfl kj kj ?_
     refine Qaa (.int .i64 (((2*(j+1)+1:Nat):Int))) 79 rfl kj (Qai (u:=.int .i64 (IntKind.i64.wrap (((2*j+1:Nat):Int)+2))) kj (congrArg (Value.int .i64) ((IntWalk.i64_in _ (by omega)).trans (by omega)))) ?_
     refine Qaa (.int .i64 (((2*(j+1)+1:Nat):Int))) 10 rfl kj kj ?_
     refine Qae ?_
     have y4_6:Ext W4 W6:=(Rely.Ext.trans e5 e6)
     repeat (first | with_reducible refine goX1 ?_ | with_reducible refine goX2 ?_ | with_reducible refine goX3 ?_)
     exact Qas (j+1) ⟨rfl,rfl,rfl,rfl,rfl,rfl,rfl,trivial⟩ ⟨(by omega),(fun j2 hj=>by by_cases e:j2=j; (rw [e]; exact hyk); exact hys j2 (by omega)),y4_6,x6⟩ (by show ts.length-(j+1)<ts.length-j; omega)
    ·skip
     have hyk:((2*j+1:Nat):Int)≠((x:Nat):Int)→(ndi ts (2*j+1)).n.us=true→abv ((x:Nat):Int) ((2*j+1:Nat):Int) ((L:Nat):Int)=true→abv ((2*j+1:Nat):Int) (2*((m:Nat):Int)) ((L:Nat):Int)=true→((m:Nat):Int)∈(ndi ts (2*j+1)).n.ms:=fun h1 h2 h3 h4=>by rw [hq.2.2.2] at h4; cases h4
     refine Qab ?_
     refine Qaa (.int .i64 ((2*j+1:Nat):Int)) 80 rfl kj kj ?_
     refine Qaa (.int .i64 ((x:Nat):Int)) 81 rfl kj kj ?_
     refine Qaa (.bool true) 82 rfl kj (Qai (u:=.bool ((((2*j+1:Nat):Int) != ((x:Nat):Int)))) kj (congrArg Value.bool (bne_iff_ne.2 (by omega)))) ?_
     refine Qaa (.bool true) 83 rfl kj kj ?_
     refine Qaa (.slice a_t ts.length c_t) 84 rfl kj kj ?_
     refine Qaa (.int .i64 ((2*j+1:Nat):Int)) 85 rfl kj kj ?_
     refine Qaa (.pointer (some ⟨gyT,oyT+(2*j+1)*99,none⟩)) 86 rfl kj (Qao 23 _ _ .i64 (2*j+1) gyT oyT ts.length c_t 41 99 a_t (hay (by omega)) rfl kj kj kj kj (by omega)) ?_
     refine Qaa (.pointer (some ⟨gyT,oyT+(2*j+1)*99,none⟩)) 87 rfl kj kj ?_
     refine Qaa (.bool true) 88 rfl kj (Qaj 4 _ _ (.bool true) ((NdAt.at3 hny).1.trans (congrArg (fun z=>some (Value.bool z)) hq.2.1)) rfl kj kj) ?_
     refine Qaa (.bool true) 89 rfl kj kj ?_
     refine Qaa (.bool true) 90 rfl kj kj ?_
     refine Qaa (.int .i64 ((x:Nat):Int)) 91 rfl kj kj ?_
     refine Qaa (.int .i64 ((2*j+1:Nat):Int)) 92 rfl kj kj ?_
     refine Qaa (.int .i64 ((L:Nat):Int)) 93 rfl kj kj ?_
     refine Qal (.bool true) 61 #[.int .i64 ((x:Nat):Int),.int .i64 ((2*j+1:Nat):Int),.int .i64 ((L:Nat):Int)] 94 rfl kj kj (Qb9 _ _ _ true hq.2.2.1 _) fun W6 e6=>?_
     have x6:Ext w W6:=Ext.tr xx3 e6
     refine Qaa (.bool true) 95 rfl kj kj ?_
     refine Qaa (.bool true) 96 rfl kj kj ?_
     refine Qaa (.int .i64 ((2*j+1:Nat):Int)) 97 rfl kj kj ?_
     refine Qaa (.int .i64 (nth (nt.n.ms) (k))) 98 rfl kj kj ?_
     refine Qaa (.int .i64 (2*((m:Nat):Int))) 99 rfl kj (Qai (u:=.int .i64 (IntKind.i64.wrap (2*(nth (nt.n.ms) (k))))) kj (congrArg (Value.int .i64) (by rw [hm]; exact IntWalk.i64_in _ (by omega)))) ?_
     refine Qaa (.int .i64 ((L:Nat):Int)) 100 rfl kj kj ?_
     refine Qal (.bool false) 61 #[.int .i64 ((2*j+1:Nat):Int),.int .i64 (2*((m:Nat):Int)),.int .i64 ((L:Nat):Int)] 101 rfl kj kj (Qb9 _ _ _ false hq.2.2.2 _) fun W7 e7=>?_
     have x7:Ext w W7:=Ext.tr x6 e7
     refine Qaa (.bool false) 102 rfl kj kj ?_
     refine Qaa (.bool false) 103 rfl kj kj ?_
     refine Qad 104 rfl kj ?_
     refine Qad 105 rfl kj ?_
     refine Qad 106 rfl kj ?_
     refine Qad 107 rfl kj ?_
     refine Qad 108 rfl kj ?_
     refine Qad 109 rfl kj ?_
     refine Qad 110 rfl kj ?_
     refine Qad 111 rfl kj ?_
     refine Qaa (.bool false) 112 rfl kj kj ?_
     refine Qae ?_
     refine hK35 _ _ ?_
     refine cond_false kj ?_
     refine wp_skip ?_
     refine hK34 _ _ ?_
     refine Qab ?_
     refine Qaa (.int .i64 ((2*j+1:Nat):Int)) 78 rfl kj kj ?_
     refine Qaa (.int .i64 (((2*(j+1)+1:Nat):Int))) 79 rfl kj (Qai (u:=.int .i64 (IntKind.i64.wrap (((2*j+1:Nat):Int)+2))) kj (congrArg (Value.int .i64) ((IntWalk.i64_in _ (by omega)).trans (by omega)))) ?_
     refine Qaa (.int .i64 (((2*(j+1)+1:Nat):Int))) 10 rfl kj kj ?_
     refine Qae ?_
     have y4_6:Ext W4 W6:=(Rely.Ext.trans e5 e6)
     have y4_7:Ext W4 W7:=(Rely.Ext.trans y4_6 e7)
     repeat (first | with_reducible refine goX1 ?_ | with_reducible refine goX2 ?_ | with_reducible refine goX3 ?_)
     exact Qas (j+1) ⟨rfl,rfl,rfl,rfl,rfl,rfl,rfl,trivial⟩ ⟨(by omega),(fun j2 hj=>by by_cases e:j2=j; (rw [e]; exact hyk); exact hys j2 (by omega)),y4_7,x7⟩ (by show ts.length-(j+1)<ts.length-j; omega)
    ·skip
     have hyk:((2*j+1:Nat):Int)≠((x:Nat):Int)→(ndi ts (2*j+1)).n.us=true→abv ((x:Nat):Int) ((2*j+1:Nat):Int) ((L:Nat):Int)=true→abv ((2*j+1:Nat):Int) (2*((m:Nat):Int)) ((L:Nat):Int)=true→((m:Nat):Int)∈(ndi ts (2*j+1)).n.ms:=fun h1 h2 h3 h4=>by rw [←hm,←eny]; exact hq.2.2.2.2
     refine Qab ?_
     refine Qaa (.int .i64 ((2*j+1:Nat):Int)) 80 rfl kj kj ?_
     refine Qaa (.int .i64 ((x:Nat):Int)) 81 rfl kj kj ?_
     refine Qaa (.bool true) 82 rfl kj (Qai (u:=.bool ((((2*j+1:Nat):Int) != ((x:Nat):Int)))) kj (congrArg Value.bool (bne_iff_ne.2 (by omega)))) ?_
     refine Qaa (.bool true) 83 rfl kj kj ?_
     refine Qaa (.slice a_t ts.length c_t) 84 rfl kj kj ?_
     refine Qaa (.int .i64 ((2*j+1:Nat):Int)) 85 rfl kj kj ?_
     refine Qaa (.pointer (some ⟨gyT,oyT+(2*j+1)*99,none⟩)) 86 rfl kj (Qao 23 _ _ .i64 (2*j+1) gyT oyT ts.length c_t 41 99 a_t (hay (by omega)) rfl kj kj kj kj (by omega)) ?_
     refine Qaa (.pointer (some ⟨gyT,oyT+(2*j+1)*99,none⟩)) 87 rfl kj kj ?_
     refine Qaa (.bool true) 88 rfl kj (Qaj 4 _ _ (.bool true) ((NdAt.at3 hny).1.trans (congrArg (fun z=>some (Value.bool z)) hq.2.1)) rfl kj kj) ?_
     refine Qaa (.bool true) 89 rfl kj kj ?_
     refine Qaa (.bool true) 90 rfl kj kj ?_
     refine Qaa (.int .i64 ((x:Nat):Int)) 91 rfl kj kj ?_
     refine Qaa (.int .i64 ((2*j+1:Nat):Int)) 92 rfl kj kj ?_
     refine Qaa (.int .i64 ((L:Nat):Int)) 93 rfl kj kj ?_
     refine Qal (.bool true) 61 #[.int .i64 ((x:Nat):Int),.int .i64 ((2*j+1:Nat):Int),.int .i64 ((L:Nat):Int)] 94 rfl kj kj (Qb9 _ _ _ true hq.2.2.1 _) fun W6 e6=>?_
     have x6:Ext w W6:=Ext.tr xx3 e6
     refine Qaa (.bool true) 95 rfl kj kj ?_
     refine Qaa (.bool true) 96 rfl kj kj ?_
     refine Qaa (.int .i64 ((2*j+1:Nat):Int)) 97 rfl kj kj ?_
     refine Qaa (.int .i64 (nth (nt.n.ms) (k))) 98 rfl kj kj ?_
     refine Qaa (.int .i64 (2*((m:Nat):Int))) 99 rfl kj (Qai (u:=.int .i64 (IntKind.i64.wrap (2*(nth (nt.n.ms) (k))))) kj (congrArg (Value.int .i64) (by rw [hm]; exact IntWalk.i64_in _ (by omega)))) ?_
     refine Qaa (.int .i64 ((L:Nat):Int)) 100 rfl kj kj ?_
     refine Qal (.bool true) 61 #[.int .i64 ((2*j+1:Nat):Int),.int .i64 (2*((m:Nat):Int)),.int .i64 ((L:Nat):Int)] 101 rfl kj kj (Qb9 _ _ _ true hq.2.2.2.1 _) fun W7 e7=>?_
     have x7:Ext w W7:=Ext.tr x6 e7
     refine Qaa (.bool true) 102 rfl kj kj ?_
     refine Qaa (.bool true) 103 rfl kj kj ?_
     refine Qaa (.int .i64 (nth (nt.n.ms) (k))) 104 rfl kj kj ?_
     refine Qaa (.slice a_t ts.length c_t) 105 rfl kj kj ?_
     refine Qaa (.int .i64 ((2*j+1:Nat):Int)) 106 rfl kj kj ?_
     refine Qaa (.pointer (some ⟨gyT,oyT+(2*j+1)*99,none⟩)) 107 rfl kj (Qao 23 _ _ .i64 (2*j+1) gyT oyT ts.length c_t 41 99 a_t (hay (by omega)) rfl kj kj kj kj (by omega)) ?_
     refine Qaa (.pointer (some ⟨gyT,oyT+(2*j+1)*99+98,none⟩)) 108 rfl kj kj ?_
     have y5_6:Ext V3 W6:=(Rely.Ext.trans (Rely.Ext.refl V3) e6)
     have y5_7:Ext V3 W7:=(Rely.Ext.trans y5_6 e7)
     refine Qaa (.slice ny.a ny.n.ms.length ny.c) 109 rfl kj (Qaj 36 _ _ (.slice ny.a ny.n.ms.length ny.c) (NdAt.at3 (NdAt.ext hny y5_7)).2.2 rfl kj kj) ?_
     refine Qal (.bool true) 34 #[.int .i64 (nth (nt.n.ms) (k)),.slice ny.a ny.n.ms.length ny.c] 110 rfl kj kj (inRb ny.n.ms (nth nt.n.ms k) ny.a ny.c _ _ (eny▸hmt _ (by omega)) (RdK.here (RdK.ext rdy y5_7)) true (decide_eq_true hq.2.2.2.2)) fun W8 e8=>?_
     have x8:Ext w W8:=Ext.tr x7 e8
     refine Qaa (.bool false) 111 rfl kj kj ?_
     refine Qaa (.bool false) 112 rfl kj kj ?_
     refine Qae ?_
     refine hK35 _ _ ?_
     refine cond_false kj ?_
     refine wp_skip ?_
     refine hK34 _ _ ?_
     refine Qab ?_
     refine Qaa (.int .i64 ((2*j+1:Nat):Int)) 78 rfl kj kj ?_
     refine Qaa (.int .i64 (((2*(j+1)+1:Nat):Int))) 79 rfl kj (Qai (u:=.int .i64 (IntKind.i64.wrap (((2*j+1:Nat):Int)+2))) kj (congrArg (Value.int .i64) ((IntWalk.i64_in _ (by omega)).trans (by omega)))) ?_
     refine Qaa (.int .i64 (((2*(j+1)+1:Nat):Int))) 10 rfl kj kj ?_
     refine Qae ?_
     have y4_6:Ext W4 W6:=(Rely.Ext.trans e5 e6)
     have y4_7:Ext W4 W7:=(Rely.Ext.trans y4_6 e7)
     have y4_8:Ext W4 W8:=(Rely.Ext.trans y4_7 e8)
     repeat (first | with_reducible refine goX1 ?_ | with_reducible refine goX2 ?_ | with_reducible refine goX3 ?_)
     exact Qas (j+1) ⟨rfl,rfl,rfl,rfl,rfl,rfl,rfl,trivial⟩ ⟨(by omega),(fun j2 hj=>by by_cases e:j2=j; (rw [e]; exact hyk); exact hys j2 (by omega)),y4_8,x8⟩ (by show ts.length-(j+1)<ts.length-j; omega)
    ·skip
     have hb:msOk ts ((L:Nat):Int) ((x:Nat):Int) nt.n.ms k=false:=by
      unfold msOk
      rw [hm,QeK (y:=2*j+1) hxn (by omega) (by omega) hQ.2.2 hyn (by omega) (by omega) hq.2.2.1 hq.2.2.2.1 (eny▸hq.2.1) (by rw [←hm,←eny]; exact hq.2.2.2.2),Bool.and_false]
     refine Qab ?_
     refine Qaa (.int .i64 ((2*j+1:Nat):Int)) 80 rfl kj kj ?_
     refine Qaa (.int .i64 ((x:Nat):Int)) 81 rfl kj kj ?_
     refine Qaa (.bool true) 82 rfl kj (Qai (u:=.bool ((((2*j+1:Nat):Int) != ((x:Nat):Int)))) kj (congrArg Value.bool (bne_iff_ne.2 (by omega)))) ?_
     refine Qaa (.bool true) 83 rfl kj kj ?_
     refine Qaa (.slice a_t ts.length c_t) 84 rfl kj kj ?_
     refine Qaa (.int .i64 ((2*j+1:Nat):Int)) 85 rfl kj kj ?_
     refine Qaa (.pointer (some ⟨gyT,oyT+(2*j+1)*99,none⟩)) 86 rfl kj (Qao 23 _ _ .i64 (2*j+1) gyT oyT ts.length c_t 41 99 a_t (hay (by omega)) rfl kj kj kj kj (by omega)) ?_
     refine Qaa (.pointer (some ⟨gyT,oyT+(2*j+1)*99,none⟩)) 87 rfl kj kj ?_
     refine Qaa (.bool true) 88 rfl kj (Qaj 4 _ _ (.bool true) ((NdAt.at3 hny).1.trans (congrArg (fun z=>some (Value.bool z)) hq.2.1)) rfl kj kj) ?_
     refine Qaa (.bool true) 89 rfl kj kj ?_
     refine Qaa (.bool true) 90 rfl kj kj ?_
     refine Qaa (.int .i64 ((x:Nat):Int)) 91 rfl kj kj ?_
     refine Qaa (.int .i64 ((2*j+1:Nat):Int)) 92 rfl kj kj ?_
     refine Qaa (.int .i64 ((L:Nat):Int)) 93 rfl kj kj ?_
     refine Qal (.bool true) 61 #[.int .i64 ((x:Nat):Int),.int .i64 ((2*j+1:Nat):Int),.int .i64 ((L:Nat):Int)] 94 rfl kj kj (Qb9 _ _ _ true hq.2.2.1 _) fun W6 e6=>?_
     have x6:Ext w W6:=Ext.tr xx3 e6
     refine Qaa (.bool true) 95 rfl kj kj ?_
     refine Qaa (.bool true) 96 rfl kj kj ?_
     refine Qaa (.int .i64 ((2*j+1:Nat):Int)) 97 rfl kj kj ?_
     refine Qaa (.int .i64 (nth (nt.n.ms) (k))) 98 rfl kj kj ?_
     refine Qaa (.int .i64 (2*((m:Nat):Int))) 99 rfl kj (Qai (u:=.int .i64 (IntKind.i64.wrap (2*(nth (nt.n.ms) (k))))) kj (congrArg (Value.int .i64) (by rw [hm]; exact IntWalk.i64_in _ (by omega)))) ?_
     refine Qaa (.int .i64 ((L:Nat):Int)) 100 rfl kj kj ?_
     refine Qal (.bool true) 61 #[.int .i64 ((2*j+1:Nat):Int),.int .i64 (2*((m:Nat):Int)),.int .i64 ((L:Nat):Int)] 101 rfl kj kj (Qb9 _ _ _ true hq.2.2.2.1 _) fun W7 e7=>?_
     have x7:Ext w W7:=Ext.tr x6 e7
     refine Qaa (.bool true) 102 rfl kj kj ?_
     refine Qaa (.bool true) 103 rfl kj kj ?_
     refine Qaa (.int .i64 (nth (nt.n.ms) (k))) 104 rfl kj kj ?_
     refine Qaa (.slice a_t ts.length c_t) 105 rfl kj kj ?_
     refine Qaa (.int .i64 ((2*j+1:Nat):Int)) 106 rfl kj kj ?_
     refine Qaa (.pointer (some ⟨gyT,oyT+(2*j+1)*99,none⟩)) 107 rfl kj (Qao 23 _ _ .i64 (2*j+1) gyT oyT ts.length c_t 41 99 a_t (hay (by omega)) rfl kj kj kj kj (by omega)) ?_
     refine Qaa (.pointer (some ⟨gyT,oyT+(2*j+1)*99+98,none⟩)) 108 rfl kj kj ?_
     have y5_6:Ext V3 W6:=(Rely.Ext.trans (Rely.Ext.refl V3) e6)
     have y5_7:Ext V3 W7:=(Rely.Ext.trans y5_6 e7)
     refine Qaa (.slice ny.a ny.n.ms.length ny.c) 109 rfl kj (Qaj 36 _ _ (.slice ny.a ny.n.ms.length ny.c) (NdAt.at3 (NdAt.ext hny y5_7)).2.2 rfl kj kj) ?_
     refine Qal (.bool false) 34 #[.int .i64 (nth (nt.n.ms) (k)),.slice ny.a ny.n.ms.length ny.c] 110 rfl kj kj (inRb ny.n.ms (nth nt.n.ms k) ny.a ny.c _ _ (eny▸hmt _ (by omega)) (RdK.here (RdK.ext rdy y5_7)) false (decide_eq_false hq.2.2.2.2)) fun W8 e8=>?_
     have x8:Ext w W8:=Ext.tr x7 e8
     refine Qaa (.bool true) 111 rfl kj kj ?_
     refine Qaa (.bool true) 112 rfl kj kj ?_
     refine Qae ?_
     refine hK35 _ _ ?_
     refine cond_true kj ?_
     refine wp_seq_k fun K36 hK36=>?_
     refine Qab ?_
     refine Qaa (.bool false) 6 rfl kj kj ?_
     refine Qae ?_
     refine hK36 _ _ ?_
     refine wp_ret ?_
     repeat (first | with_reducible refine goR1 ?_ | with_reducible refine goR2 ?_)
     exact (show bodyPost _ _ _ .ret _ _ from ret1 (.bool false) rfl (Qam kj) ⟨congrArg (fun z=>Ending.returned (.bool z)) ((Qbi h h1 h2).trans (QcP (k:=k) (by rw [←ent]; exact hlt28) (by rw [←ent]; exact hb))).symm,x8⟩)
   ·skip
    have hy77:¬ 2*j+1<ts.length:=by have:=of_decide_eq_false c33; omega
    refine wp_exit ?_
    refine hK12 _ _ ?_
    refine Qab ?_
    refine Qaa (.int .i64 ((k:Nat):Int)) 29 rfl kj kj ?_
    refine Qaa (.int .i64 ((k+1:Nat):Int)) 30 rfl kj (Qai (u:=.int .i64 (IntKind.i64.wrap (((k:Nat):Int)+1))) kj (congrArg (Value.int .i64) (i64n _ _ (by omega) (by omega)))) ?_
    refine Qaa (.int .i64 ((k+1:Nat):Int)) 8 rfl kj kj ?_
    refine Qae ?_
    have hb:msOk ts ((L:Nat):Int) ((x:Nat):Int) nt.n.ms k=true:=hb0.trans (QdO hxn (by omega) (by omega) hQ.2.2 (by rw [←enz]; exact hzu) (fun y hy hyo=>by obtain ⟨j2,rfl⟩:∃ j2,y=2*j2+1:=⟨y/2,by omega⟩; exact hys j2 (by omega)))
    have y2_4:Ext W2 W4:=(Rely.Ext.trans e3 e4)
    have y2_5:Ext W2 V3:=(Rely.Ext.trans y2_4 e5)
    repeat (first | with_reducible refine goX1 ?_ | with_reducible refine goX2 ?_ | with_reducible refine goX3 ?_)
    exact Qas (k+1) ⟨rfl,rfl,rfl,rfl,rfl,trivial⟩ ⟨(by omega),(fun j2 hj=>by by_cases e:j2=k; (rw [e]; exact hb); exact hall j2 (by omega)),y2_5,xx3⟩ (by show nt.n.ms.length-(k+1)<nt.n.ms.length-k; omega)
 ·skip
  have heq28:k=nt.n.ms.length:=by have:=of_decide_eq_false c10; omega
  refine wp_exit ?_
  refine hK6 _ _ ?_
  refine wp_seq_k fun K37 hK37=>?_
  refine Qab ?_
  refine Qaa (.bool true) 6 rfl kj kj ?_
  refine Qae ?_
  refine hK37 _ _ ?_
  refine wp_ret ?_
  repeat (first | with_reducible refine goR1 ?_ | with_reducible refine goR2 ?_)
  exact (show bodyPost _ _ _ .ret _ _ from ret1 (.bool true) rfl (Qam kj) ⟨congrArg (fun z=>Ending.returned (.bool z)) ((Qbi h h1 h2).trans (Qf7 (by rw [←ent,←heq28]; exact hall))).symm,xx1⟩)
theorem Qlc (ts : List NdV) (a_t:Option Addr) (c_t B1:Nat) (w:World) (ht:TrAt B1 w a_t ts) (L:Nat) (hL:leaves ((ts.length:Nat):Int)=((L:Nat):Int)) (hlen:ts.length+1=2*L) (hTr:Qax ((L:Nat):Int)=true) (hmt:∀ i,i<ts.length→(ndi ts i).n.ms.length≤1000000) (htl:ts.length≤100000) (x:Nat) (hx:x<ts.length) (h:x%2≠0):Calls Tryd.prog 42 #[.slice a_t ts.length c_t,.int .i64 ((x:Nat):Int),.int .i64 ((L:Nat):Int)] w (Ret w (.bool (Qbj ts ((L:Nat):Int) x))):=by
  by_cases h1:(ndi ts x).n.nm=0
  · by_cases h2:(ndi ts x).n.sg=List.replicate 32 0
    · exact QjR ts a_t c_t B1 w ht L hL hlen hTr hmt htl x hx h h1 h2
    · exact QjS ts a_t c_t B1 w ht L hL hlen hTr hmt htl x hx h h1 h2
  · exact QjQ ts a_t c_t B1 w ht L hL hlen hTr hmt htl x hx h h1
end Go.Proofs.YtcmaolmofgmkhaaDoor.Te
end
section
namespace Go.Proofs.YtcmaolmofgmkhaaDoor.Te
open Go Go.RowKit
open Rely Auto Own Seat Sha
theorem QdQ {ts : List NdV} {nm:Int}:∀ {i:Nat},nm∈QaT ts i↔∃ j,j<i∧(ndi ts (2*j)).n.us=true∧(ndi ts (2*j)).n.nm=nm
  | 0=>by simp [QaT]
  | i+1=>by
    have ih:=QdQ (ts:=ts) (nm:=nm) (i:=i)
    unfold QaT
    by_cases hu:(ndi ts (2*i)).n.us=true
    · rw [if_pos hu,List.mem_append,ih,List.mem_singleton]
      constructor
      · rintro (⟨j,h1,h2⟩ | h)
        · exact ⟨j,by omega,h2⟩
        · exact ⟨i,by omega,hu,h.symm⟩
      · rintro ⟨j,h1,h2,h3⟩
        by_cases e:j=i
        · subst e; exact .inr h3.symm
        · exact .inl ⟨j,by omega,h2,h3⟩
    · rw [if_neg hu,ih]
      constructor
      · rintro ⟨j,h1,h2⟩; exact ⟨j,by omega,h2⟩
      · rintro ⟨j,h1,h2,h3⟩
        by_cases e:j=i
        · subst e; exact absurd h2 hu
        · exact ⟨j,by omega,h2,h3⟩
theorem Qfn {ts : List NdV} {i:Nat} (h:(ndi ts (2*i)).n.us=true):QaT ts (i+1)=QaT ts i++[(ndi ts (2*i)).n.nm]:=by rw [QaT,if_pos h]
theorem Qgm {ts : List NdV} {i:Nat} (h:(ndi ts (2*i)).n.us=false):QaT ts (i+1)=QaT ts i:=by rw [QaT,if_neg (by rw [h]; decide)]
theorem QiV {ts : List NdV} {m:Nat} (h:(QaT ts m).Nodup) (hn:∀ j,j<m→(ndi ts (2*j)).n.us=true→(ndi ts (2*j)).n.nm≠(ndi ts (2*m)).n.nm):(QaT ts (m+1)).Nodup:=by
  cases hu:(ndi ts (2*m)).n.us with
  | false=>rw [Qgm hu]; exact h
  | true =>
    rw [Qfn hu]
    exact QcH h fun hc=>by
      obtain ⟨j,h1,h2,h3⟩:=QdQ.1 hc
      exact hn j h1 h2 h3
theorem QhQ {ts : List NdV} {m j:Nat} (hm:2*m<ts.length) (hj:j<m) (hu:(ndi ts (2*j)).n.us=true) (hu2:(ndi ts (2*m)).n.us=true) (hn:(ndi ts (2*j)).n.nm=(ndi ts (2*m)).n.nm):Qbs ts=false:=by
  unfold Qbs
  refine decide_eq_false (QdS (i:=m+1) ?_ _ (by omega))
  rw [Qfn hu2]
  exact fun q=>(List.nodup_append.1 q).2.2 _ (QdQ.2 ⟨j,hj,hu,hn⟩) _ (List.mem_singleton.2 rfl) rfl
theorem chk4 {ts : List NdV} {L x:Nat} (e:lvs ts=L) (hx:x<ts.length) (h:QaR ts ((L:Nat):Int) x=false):chkT ts=false:=by
  unfold chkT
  rw [e,QcP hx h,Bool.and_false]
theorem Qjw (b : Bool) (nd:NdV) (hok:NdOk nd.n) (B1:Nat) (w:World) (hm1:nd.n.ms.length≤1000000) (hr1:RdK .i64 B1 nd.n.ms (.slice nd.a nd.n.ms.length nd.c) w) (h:Qc0 nd.n zn.n=b):Calls Tryd.prog 20 #[.agg (cat [#[.bool nd.n.us],#[.int .i64 nd.n.nm],ints .u8 (nd.n.key),ints .u8 (nd.n.sg),ints .u8 (nd.n.pa),#[.slice nd.a nd.n.ms.length nd.c]]),.agg (cat [#[.bool false],#[.int .i64 0],ints .u8 (List.replicate 32 0),ints .u8 (List.replicate 32 0),ints .u8 (List.replicate 32 0),#[.slice none 0 0]])] w (Ret w (.bool b)):=by
  exact h▸Qlh nd zn hok Qdj B1 0 w hm1 (Nat.zero_le _) hr1 (QcW 0 w)
theorem QbE {m L:Nat} (hm:m≤100000) (h:leaves ((m:Nat):Int)=((L:Nat):Int)):QcQ ((m:Nat):Int)=((L:Nat):Int):=(QfA _ ⟨by omega,by omega⟩).symm.trans h
set_option maxRecDepth 100000 in
theorem Ql9 (ts : List NdV) (a_t:Option Addr) (c_t B1:Nat) (w:World) (ht:TrAt B1 w a_t ts) (htl:ts.length≤100000) (hmt:∀ i,i<ts.length→(ndi ts i).n.ms.length≤1000000) (L:Nat) (hL:leaves ((ts.length:Nat):Int)=((L:Nat):Int)) (hL2:2*L≤ts.length+1) (hL4:L≠0→ts.length+1=2*L∧Qax ((L:Nat):Int)=true) (h0:L=0):Calls Tryd.prog 12 #[.slice a_t ts.length c_t] w (Ret w (.bool (chkT ts))):=by
  refine enter 95 [(0,.slice a_t ts.length c_t)] Tryd.func12 rfl rfl kj rfl ?_
  refine wp_seq_k fun K1 hK1=>?_
  refine Qab ?_
  refine Qaa (.bool false) 2 rfl kj kj ?_
  refine Qae ?_
  refine hK1 _ _ ?_
  refine wp_seq_k fun K2 hK2=>?_
  refine Qab ?_
  refine Qaa (.slice a_t ts.length c_t) 6 rfl kj kj ?_
  refine Qaa (.int .i64 ((ts.length:Nat):Int)) 7 rfl kj kj ?_
  refine Qal (.int .i64 ((L:Nat):Int)) 32 #[.int .i64 ((ts.length:Nat):Int)] 8 rfl kj kj (Qcr ((ts.length:Nat):Int) _ (QbE htl hL) _) fun W1 e1=>?_
  have x1:Ext w W1:=Ext.tr (Rely.Ext.refl w) e1
  refine Qaa (.int .i64 ((L:Nat):Int)) 3 rfl kj kj ?_
  refine Qae ?_
  refine hK2 _ _ ?_
  refine wp_seq_k fun K3 hK3=>?_
  refine wp_seq_k fun K4 hK4=>?_
  refine Qab ?_
  refine Qaa (.int .i64 ((L:Nat):Int)) 9 rfl kj kj ?_
  refine Qaa (.bool true) 10 rfl kj (Qai (u:=.bool ((((L:Nat):Int)==0))) kj (congrArg Value.bool (beq_iff_eq.2 (by omega)))) ?_
  refine Qaa (.bool true) 11 rfl kj kj ?_
  refine Qad 12 rfl kj ?_
  refine Qad 13 rfl kj ?_
  refine Qad 14 rfl kj ?_
  refine Qad 15 rfl kj ?_
  refine Qad 16 rfl kj ?_
  refine Qaa (.bool true) 17 rfl kj kj ?_
  refine Qae ?_
  refine hK4 _ _ ?_
  refine cond_true kj ?_
  refine wp_seq_k fun K5 hK5=>?_
  refine Qab ?_
  refine Qaa (.bool false) 2 rfl kj kj ?_
  refine Qae ?_
  refine hK5 _ _ ?_
  refine wp_ret ?_
  repeat (first | with_reducible refine goR1 ?_ | with_reducible refine goR2 ?_)
  exact (show bodyPost _ _ _ .ret _ _ from ret1 (.bool false) rfl (Qam kj) ⟨congrArg (fun z=>Ending.returned (.bool z)) (chk0 (Qbx hL) h0).symm,x1⟩)
set_option maxRecDepth 100000 in
theorem Ql8 (ts : List NdV) (a_t:Option Addr) (c_t B1:Nat) (w:World) (ht:TrAt B1 w a_t ts) (htl:ts.length≤100000) (hmt:∀ i,i<ts.length→(ndi ts i).n.ms.length≤1000000) (L:Nat) (hL:leaves ((ts.length:Nat):Int)=((L:Nat):Int)) (hL2:2*L≤ts.length+1) (hL4:L≠0→ts.length+1=2*L∧Qax ((L:Nat):Int)=true) (h0:L≠0) (h2:anyU ts (L/2)=false):Calls Tryd.prog 12 #[.slice a_t ts.length c_t] w (Ret w (.bool (chkT ts))):=by
  obtain ⟨hlen,hTr⟩:=hL4 h0
  refine enter 95 [(0,.slice a_t ts.length c_t)] Tryd.func12 rfl rfl kj rfl ?_
  refine wp_seq_k fun K1 hK1=>?_
  refine Qab ?_
  refine Qaa (.bool false) 2 rfl kj kj ?_
  refine Qae ?_
  refine hK1 _ _ ?_
  refine wp_seq_k fun K2 hK2=>?_
  refine Qab ?_
  refine Qaa (.slice a_t ts.length c_t) 6 rfl kj kj ?_
  refine Qaa (.int .i64 ((ts.length:Nat):Int)) 7 rfl kj kj ?_
  refine Qal (.int .i64 ((L:Nat):Int)) 32 #[.int .i64 ((ts.length:Nat):Int)] 8 rfl kj kj (Qcr ((ts.length:Nat):Int) _ (QbE htl hL) _) fun W1 e1=>?_
  have x1:Ext w W1:=Ext.tr (Rely.Ext.refl w) e1
  refine Qaa (.int .i64 ((L:Nat):Int)) 3 rfl kj kj ?_
  refine Qae ?_
  refine hK2 _ _ ?_
  refine wp_seq_k fun K3 hK3=>?_
  refine wp_seq_k fun K4 hK4=>?_
  refine Qab ?_
  refine Qaa (.int .i64 ((L:Nat):Int)) 9 rfl kj kj ?_
  refine Qaa (.bool false) 10 rfl kj (Qai (u:=.bool ((((L:Nat):Int)==0))) kj (congrArg Value.bool (beq_eq_false_iff_ne.2 (by omega)))) ?_
  refine Qaa (.bool false) 11 rfl kj kj ?_
  refine Qaa (.slice a_t ts.length c_t) 12 rfl kj kj ?_
  refine Qaa (.int .i64 ((L:Nat):Int)) 13 rfl kj kj ?_
  refine Qaa (.int .i64 ((L/2:Nat):Int)) 14 rfl kj (Qai (u:=.int .i64 (IntKind.i64.wrap (Int.tdiv (((L:Nat):Int)) (2)))) kj (congrArg (Value.int .i64) (QcR _ 2 (by omega)))) ?_
  refine Qal (.bool false) 41 #[.slice a_t ts.length c_t,.int .i64 ((L/2:Nat):Int)] 15 rfl kj kj ((h2▸QjM ts a_t c_t _ _ (TrAt.ext ht x1) htl (L/2) (by omega))) fun W2 e2=>?_
  have x2:Ext w W2:=Ext.tr x1 e2
  refine Qaa (.bool true) 16 rfl kj kj ?_
  refine Qaa (.bool true) 17 rfl kj kj ?_
  refine Qae ?_
  refine hK4 _ _ ?_
  refine cond_true kj ?_
  refine wp_seq_k fun K5 hK5=>?_
  refine Qab ?_
  refine Qaa (.bool false) 2 rfl kj kj ?_
  refine Qae ?_
  refine hK5 _ _ ?_
  refine wp_ret ?_
  repeat (first | with_reducible refine goR1 ?_ | with_reducible refine goR2 ?_)
  exact (show bodyPost _ _ _ .ret _ _ from ret1 (.bool false) rfl (Qam kj) ⟨congrArg (fun z=>Ending.returned (.bool z)) (chk2 (Qbx hL) h2).symm,x2⟩)
set_option maxRecDepth 100000 in
theorem Ql7 (ts : List NdV) (a_t:Option Addr) (c_t B1:Nat) (w:World) (ht:TrAt B1 w a_t ts) (htl:ts.length≤100000) (hmt:∀ i,i<ts.length→(ndi ts i).n.ms.length≤1000000) (L:Nat) (hL:leaves ((ts.length:Nat):Int)=((L:Nat):Int)) (hL2:2*L≤ts.length+1) (hL4:L≠0→ts.length+1=2*L∧Qax ((L:Nat):Int)=true) (h0:L≠0) (h2:anyU ts (L/2)=true):Calls Tryd.prog 12 #[.slice a_t ts.length c_t] w (Ret w (.bool (chkT ts))):=by
 obtain ⟨hlen,hTr⟩:=hL4 h0
 refine enter 95 [(0,.slice a_t ts.length c_t)] Tryd.func12 rfl rfl kj rfl ?_
 refine wp_seq_k fun K1 hK1=>?_
 refine Qab ?_
 refine Qaa (.bool false) 2 rfl kj kj ?_
 refine Qae ?_
 refine hK1 _ _ ?_
 refine wp_seq_k fun K2 hK2=>?_
 refine Qab ?_
 refine Qaa (.slice a_t ts.length c_t) 6 rfl kj kj ?_
 refine Qaa (.int .i64 ((ts.length:Nat):Int)) 7 rfl kj kj ?_
 refine Qal (.int .i64 ((L:Nat):Int)) 32 #[.int .i64 ((ts.length:Nat):Int)] 8 rfl kj kj (Qcr ((ts.length:Nat):Int) _ (QbE htl hL) _) fun W1 e1=>?_
 have x1:Ext w W1:=Ext.tr (Rely.Ext.refl w) e1
 refine Qaa (.int .i64 ((L:Nat):Int)) 3 rfl kj kj ?_
 refine Qae ?_
 refine hK2 _ _ ?_
 refine wp_seq_k fun K3 hK3=>?_
 refine wp_seq_k fun K4 hK4=>?_
 refine Qab ?_
 refine Qaa (.int .i64 ((L:Nat):Int)) 9 rfl kj kj ?_
 refine Qaa (.bool false) 10 rfl kj (Qai (u:=.bool ((((L:Nat):Int)==0))) kj (congrArg Value.bool (beq_eq_false_iff_ne.2 (by omega)))) ?_
 refine Qaa (.bool false) 11 rfl kj kj ?_
 refine Qaa (.slice a_t ts.length c_t) 12 rfl kj kj ?_
 refine Qaa (.int .i64 ((L:Nat):Int)) 13 rfl kj kj ?_
 refine Qaa (.int .i64 ((L/2:Nat):Int)) 14 rfl kj (Qai (u:=.int .i64 (IntKind.i64.wrap (Int.tdiv (((L:Nat):Int)) (2)))) kj (congrArg (Value.int .i64) (QcR _ 2 (by omega)))) ?_
 refine Qal (.bool true) 41 #[.slice a_t ts.length c_t,.int .i64 ((L/2:Nat):Int)] 15 rfl kj kj ((h2▸QjM ts a_t c_t _ _ (TrAt.ext ht x1) htl (L/2) (by omega))) fun W2 e2=>?_
 have x2:Ext w W2:=Ext.tr x1 e2
 refine Qaa (.bool false) 16 rfl kj kj ?_
 refine Qaa (.bool false) 17 rfl kj kj ?_
 refine Qae ?_
 refine hK4 _ _ ?_
 refine cond_false kj ?_
 refine wp_skip ?_
 refine hK3 _ _ ?_
 refine wp_seq_k fun K5 hK5=>?_
 refine wp_seq_k fun K6 hK6=>?_
 refine Qab ?_
 refine Qaa (.int .i64 0) 4 rfl kj kj ?_
 refine Qae ?_
 refine hK6 _ _ ?_
 refine wp_block ?_
 refine Qaz (fun (s1:Nat)=>[(0,.slice a_t ts.length c_t),(3,.int .i64 ((L:Nat):Int)),(4,.int .i64 ((s1:Nat):Int))]) (fun (s1:Nat) W=>(s1≤ts.length)∧(∀ j,j<s1→QaR ts ((L:Nat):Int) j=true)∧((QaT ts ((s1+1)/2)).Nodup)∧(Ext W2 W)∧(Ext w W)) (fun (s1:Nat)=>ts.length-s1) 0 ⟨rfl,rfl,rfl,trivial⟩ ⟨(Nat.zero_le _),(fun j hj=>absurd hj (Nat.not_lt_zero j)),List.nodup_nil,(Rely.Ext.refl W2),x2⟩ fun s1 X1 V1 hI1=>?_
 obtain ⟨x,hs1⟩:∃ z,z=s1:=⟨_,rfl⟩
 subst hs1
 obtain ⟨hx,hall,hnd,kk1,xx1⟩:=hI1
 replace hx:x≤ts.length:=hx
 replace hall:∀ j,j<x→QaR ts ((L:Nat):Int) j=true:=hall
 replace hnd:(QaT ts ((x+1)/2)).Nodup:=hnd
 replace kk1:Ext W2 V1:=kk1
 replace xx1:Ext w V1:=xx1
 have e3:=kk1
 refine wp_seq_k fun K7 hK7=>?_
 refine wp_seq_k fun K8 hK8=>?_
 refine Qab ?_
 refine Qaa (.int .i64 ((x:Nat):Int)) 18 rfl kj kj ?_
 refine Qaa (.slice a_t ts.length c_t) 19 rfl kj kj ?_
 refine Qaa (.int .i64 ((ts.length:Nat):Int)) 20 rfl kj kj ?_
 refine Qaa (.bool (decide (((x:Nat):Int)<((ts.length:Nat):Int)))) 21 rfl kj kj ?_
 refine Qae ?_
 refine hK8 _ _ ?_
 refine Qat (t:=decide (((x:Nat):Int)<((ts.length:Nat):Int))) kj (fun c9=>?_) (fun c9=>?_)
 ·skip
  have hlt21:x<ts.length:=by have:=of_decide_eq_true c9; omega
  refine wp_skip ?_
  refine hK7 _ _ ?_
  refine wp_seq_k fun K10 hK10=>?_
  refine wp_block ?_
  refine wp_seq_k fun K11 hK11=>?_
  refine wp_seq_k fun K12 hK12=>?_
  obtain ⟨gtT,otT,hat,hnts⟩:=TrAt.ext ht xx1
  have hnt:=hnts x (by omega)
  obtain ⟨nt,ent⟩:∃ z,z=ndi ts x:=⟨_,rfl⟩
  rw [←ent] at hnt
  have okt:=hnt.ok
  have rdt:=hnt.rd
  rcases (show (nt.n.us=false∧Qc0 nt.n zn.n=true)∨(nt.n.us=false∧Qc0 nt.n zn.n=false)∨(nt.n.us=true∧x%2=1)∨(nt.n.us=true∧x%2=0) from by rcases (show x%2=1∨x%2=0 by omega) with h9 | h9 <;> cases nt.n.us <;> cases Qc0 nt.n zn.n <;> simp [h9]) with hq | hq | hq | hq
  ·skip
   have hb:QaR ts ((L:Nat):Int) x=true:=by unfold QaR; rw [←ent,if_neg (by rw [hq.1]; decide)]; exact hq.2
   refine Qab ?_
   refine Qaa (.slice a_t ts.length c_t) 24 rfl kj kj ?_
   refine Qaa (.int .i64 ((x:Nat):Int)) 25 rfl kj kj ?_
   refine Qaa (.pointer (some ⟨gtT,otT+x*99,none⟩)) 26 rfl kj (Qao 23 _ _ .i64 (x) gtT otT ts.length c_t 41 99 a_t (hat (by omega)) rfl kj kj kj kj (by omega)) ?_
   refine Qaa (.pointer (some ⟨gtT,otT+x*99,none⟩)) 27 rfl kj kj ?_
   refine Qaa (.bool false) 28 rfl kj (Qaj 4 _ _ (.bool false) ((NdAt.at3 hnt).1.trans (congrArg (fun z=>some (Value.bool z)) hq.1)) rfl kj kj) ?_
   refine Qaa (.bool true) 29 rfl kj kj ?_
   refine Qaa (.bool true) 30 rfl kj kj ?_
   refine Qaa (.slice a_t ts.length c_t) 31 rfl kj kj ?_
   refine Qaa (.int .i64 ((x:Nat):Int)) 32 rfl kj kj ?_
   refine Qaa (.pointer (some ⟨gtT,otT+x*99,none⟩)) 33 rfl kj (Qao 23 _ _ .i64 (x) gtT otT ts.length c_t 41 99 a_t (hat (by omega)) rfl kj kj kj kj (by omega)) ?_
   refine Qaa (.agg (cat [#[.bool nt.n.us],#[.int .i64 nt.n.nm],ints .u8 (nt.n.key),ints .u8 (nt.n.sg),ints .u8 (nt.n.pa),#[.slice nt.a nt.n.ms.length nt.c]])) 34 rfl kj (QaH 41 _ gtT (otT+x*99) nt hnt rfl kj kj kj) ?_
   refine Qaa (.agg (cat [#[.bool false],#[.int .i64 0],ints .u8 (List.replicate 32 0),ints .u8 (List.replicate 32 0),ints .u8 (List.replicate 32 0),#[.slice none 0 0]])) 35 rfl kj kj ?_
   refine Qal (.bool true) 20 #[.agg (cat [#[.bool nt.n.us],#[.int .i64 nt.n.nm],ints .u8 (nt.n.key),ints .u8 (nt.n.sg),ints .u8 (nt.n.pa),#[.slice nt.a nt.n.ms.length nt.c]]),.agg (cat [#[.bool false],#[.int .i64 0],ints .u8 (List.replicate 32 0),ints .u8 (List.replicate 32 0),ints .u8 (List.replicate 32 0),#[.slice none 0 0]])] 36 rfl kj kj (Qjw true nt okt _ _ (ent▸hmt x (by omega)) (RdK.here (RdK.ext rdt (Rely.Ext.refl V1))) hq.2) fun W4 e4=>?_
   have x4:Ext w W4:=Ext.tr xx1 e4
   refine Qaa (.bool false) 37 rfl kj kj ?_
   refine Qaa (.bool false) 38 rfl kj kj ?_
   refine Qae ?_
   refine hK12 _ _ ?_
   refine cond_false kj ?_
   refine wp_skip ?_
   refine hK11 _ _ ?_
   refine wp_seq_k fun K13 hK13=>?_
   refine wp_seq_k fun K14 hK14=>?_
   refine Qab ?_
   refine Qaa (.slice a_t ts.length c_t) 39 rfl kj kj ?_
   refine Qaa (.int .i64 ((x:Nat):Int)) 40 rfl kj kj ?_
   refine Qaa (.pointer (some ⟨gtT,otT+x*99,none⟩)) 41 rfl kj (Qao 23 _ _ .i64 (x) gtT otT ts.length c_t 41 99 a_t (hat (by omega)) rfl kj kj kj kj (by omega)) ?_
   refine Qaa (.pointer (some ⟨gtT,otT+x*99,none⟩)) 42 rfl kj kj ?_
   have y3_4:Ext V1 W4:=(Rely.Ext.trans (Rely.Ext.refl V1) e4)
   refine Qaa (.bool false) 43 rfl kj (Qaj 4 _ _ (.bool false) ((NdAt.at3 (NdAt.ext hnt y3_4)).1.trans (congrArg (fun z=>some (Value.bool z)) hq.1)) rfl kj kj) ?_
   refine Qaa (.bool false) 44 rfl kj kj ?_
   refine Qad 45 rfl kj ?_
   refine Qad 46 rfl kj ?_
   refine Qad 47 rfl kj ?_
   refine Qaa (.bool false) 48 rfl kj kj ?_
   refine Qaa (.bool false) 49 rfl kj kj ?_
   refine Qad 50 rfl kj ?_
   refine Qad 51 rfl kj ?_
   refine Qad 52 rfl kj ?_
   refine Qad 53 rfl kj ?_
   refine Qad 54 rfl kj ?_
   refine Qaa (.bool false) 55 rfl kj kj ?_
   refine Qae ?_
   refine hK14 _ _ ?_
   refine cond_false kj ?_
   refine wp_skip ?_
   refine hK13 _ _ ?_
   refine wp_seq_k fun K15 hK15=>?_
   refine Qab ?_
   refine Qaa (.slice a_t ts.length c_t) 56 rfl kj kj ?_
   refine Qaa (.int .i64 ((x:Nat):Int)) 57 rfl kj kj ?_
   refine Qaa (.pointer (some ⟨gtT,otT+x*99,none⟩)) 58 rfl kj (Qao 23 _ _ .i64 (x) gtT otT ts.length c_t 41 99 a_t (hat (by omega)) rfl kj kj kj kj (by omega)) ?_
   refine Qaa (.pointer (some ⟨gtT,otT+x*99,none⟩)) 59 rfl kj kj ?_
   refine Qaa (.bool false) 60 rfl kj (Qaj 4 _ _ (.bool false) ((NdAt.at3 (NdAt.ext hnt y3_4)).1.trans (congrArg (fun z=>some (Value.bool z)) hq.1)) rfl kj kj) ?_
   refine Qaa (.bool false) 61 rfl kj kj ?_
   refine Qad 62 rfl kj ?_
   refine Qad 63 rfl kj ?_
   refine Qad 64 rfl kj ?_
   refine Qaa (.bool false) 65 rfl kj kj ?_
   refine Qae ?_
   refine hK15 _ _ ?_
   refine cond_false kj ?_
   refine wp_skip ?_
   refine hK10 _ _ ?_
   refine Qab ?_
   refine Qaa (.int .i64 ((x:Nat):Int)) 22 rfl kj kj ?_
   refine Qaa (.int .i64 ((x+1:Nat):Int)) 23 rfl kj (Qai (u:=.int .i64 (IntKind.i64.wrap (((x:Nat):Int)+1))) kj (congrArg (Value.int .i64) (i64n _ _ (by omega) (by omega)))) ?_
   refine Qaa (.int .i64 ((x+1:Nat):Int)) 4 rfl kj kj ?_
   refine Qae ?_
   have y2_4:Ext W2 W4:=(Rely.Ext.trans e3 e4)
   repeat (first | with_reducible refine goX1 ?_ | with_reducible refine goX2 ?_ | with_reducible refine goX3 ?_)
   exact Qas (x+1) ⟨rfl,rfl,rfl,trivial⟩ ⟨(by omega),(fun j hj=>by by_cases e:j=x; (rw [e]; exact hb); exact hall j (by omega)),(by rcases (show x%2=1∨x%2=0 by omega) with h9 | h9; (rw [show (x+1+1)/2=(x+1)/2 by omega]; exact hnd); (rw [show (x+1+1)/2=x/2+1 by omega,Qgm (by rw [show 2*(x/2)=x by omega,←ent]; exact hq.1),show x/2=(x+1)/2 by omega]; exact hnd)),y2_4,x4⟩ (by show ts.length-(x+1)<ts.length-x; omega)
  ·skip
   have hb:QaR ts ((L:Nat):Int) x=false:=by unfold QaR; rw [←ent,if_neg (by rw [hq.1]; decide)]; exact hq.2
   refine Qab ?_
   refine Qaa (.slice a_t ts.length c_t) 24 rfl kj kj ?_
   refine Qaa (.int .i64 ((x:Nat):Int)) 25 rfl kj kj ?_
   refine Qaa (.pointer (some ⟨gtT,otT+x*99,none⟩)) 26 rfl kj (Qao 23 _ _ .i64 (x) gtT otT ts.length c_t 41 99 a_t (hat (by omega)) rfl kj kj kj kj (by omega)) ?_
   refine Qaa (.pointer (some ⟨gtT,otT+x*99,none⟩)) 27 rfl kj kj ?_
   refine Qaa (.bool false) 28 rfl kj (Qaj 4 _ _ (.bool false) ((NdAt.at3 hnt).1.trans (congrArg (fun z=>some (Value.bool z)) hq.1)) rfl kj kj) ?_
   refine Qaa (.bool true) 29 rfl kj kj ?_
   refine Qaa (.bool true) 30 rfl kj kj ?_
   refine Qaa (.slice a_t ts.length c_t) 31 rfl kj kj ?_
   refine Qaa (.int .i64 ((x:Nat):Int)) 32 rfl kj kj ?_
   refine Qaa (.pointer (some ⟨gtT,otT+x*99,none⟩)) 33 rfl kj (Qao 23 _ _ .i64 (x) gtT otT ts.length c_t 41 99 a_t (hat (by omega)) rfl kj kj kj kj (by omega)) ?_
   refine Qaa (.agg (cat [#[.bool nt.n.us],#[.int .i64 nt.n.nm],ints .u8 (nt.n.key),ints .u8 (nt.n.sg),ints .u8 (nt.n.pa),#[.slice nt.a nt.n.ms.length nt.c]])) 34 rfl kj (QaH 41 _ gtT (otT+x*99) nt hnt rfl kj kj kj) ?_
   refine Qaa (.agg (cat [#[.bool false],#[.int .i64 0],ints .u8 (List.replicate 32 0),ints .u8 (List.replicate 32 0),ints .u8 (List.replicate 32 0),#[.slice none 0 0]])) 35 rfl kj kj ?_
   refine Qal (.bool false) 20 #[.agg (cat [#[.bool nt.n.us],#[.int .i64 nt.n.nm],ints .u8 (nt.n.key),ints .u8 (nt.n.sg),ints .u8 (nt.n.pa),#[.slice nt.a nt.n.ms.length nt.c]]),.agg (cat [#[.bool false],#[.int .i64 0],ints .u8 (List.replicate 32 0),ints .u8 (List.replicate 32 0),ints .u8 (List.replicate 32 0),#[.slice none 0 0]])] 36 rfl kj kj (Qjw false nt okt _ _ (ent▸hmt x (by omega)) (RdK.here (RdK.ext rdt (Rely.Ext.refl V1))) hq.2) fun W4 e4=>?_
   have x4:Ext w W4:=Ext.tr xx1 e4
   refine Qaa (.bool true) 37 rfl kj kj ?_
   refine Qaa (.bool true) 38 rfl kj kj ?_
   refine Qae ?_
   refine hK12 _ _ ?_
   refine cond_true kj ?_
   refine wp_seq_k fun K16 hK16=>?_
   refine Qab ?_
   refine Qaa (.bool false) 2 rfl kj kj ?_
   refine Qae ?_
   refine hK16 _ _ ?_
   refine wp_ret ?_
   repeat (first | with_reducible refine goR1 ?_ | with_reducible refine goR2 ?_)
   exact (show bodyPost _ _ _ .ret _ _ from ret1 (.bool false) rfl (Qam kj) ⟨congrArg (fun z=>Ending.returned (.bool z)) ((chk4 (Qbx hL) hlt21 hb)).symm,x4⟩)
  ·skip
   have hux:(ndi ts x).n.us=true:=ent▸hq.1
   have hb0:QaR ts ((L:Nat):Int) x=Qbj ts ((L:Nat):Int) x:=by unfold QaR; rw [if_pos hux]
   refine Qab ?_
   refine Qaa (.slice a_t ts.length c_t) 24 rfl kj kj ?_
   refine Qaa (.int .i64 ((x:Nat):Int)) 25 rfl kj kj ?_
   refine Qaa (.pointer (some ⟨gtT,otT+x*99,none⟩)) 26 rfl kj (Qao 23 _ _ .i64 (x) gtT otT ts.length c_t 41 99 a_t (hat (by omega)) rfl kj kj kj kj (by omega)) ?_
   refine Qaa (.pointer (some ⟨gtT,otT+x*99,none⟩)) 27 rfl kj kj ?_
   refine Qaa (.bool true) 28 rfl kj (Qaj 4 _ _ (.bool true) ((NdAt.at3 hnt).1.trans (congrArg (fun z=>some (Value.bool z)) hq.1)) rfl kj kj) ?_
   refine Qaa (.bool false) 29 rfl kj kj ?_
   refine Qaa (.bool false) 30 rfl kj kj ?_
   refine Qad 31 rfl kj ?_
   refine Qad 32 rfl kj ?_
   refine Qad 33 rfl kj ?_
   refine Qad 34 rfl kj ?_
   refine Qad 35 rfl kj ?_
   refine Qad 36 rfl kj ?_
   refine Qad 37 rfl kj ?_
   refine Qaa (.bool false) 38 rfl kj kj ?_
   refine Qae ?_
   refine hK12 _ _ ?_
   refine cond_false kj ?_
   refine wp_skip ?_
   refine hK11 _ _ ?_
   refine wp_seq_k fun K17 hK17=>?_
   refine wp_seq_k fun K18 hK18=>?_
   refine Qab ?_
   refine Qaa (.slice a_t ts.length c_t) 39 rfl kj kj ?_
   refine Qaa (.int .i64 ((x:Nat):Int)) 40 rfl kj kj ?_
   refine Qaa (.pointer (some ⟨gtT,otT+x*99,none⟩)) 41 rfl kj (Qao 23 _ _ .i64 (x) gtT otT ts.length c_t 41 99 a_t (hat (by omega)) rfl kj kj kj kj (by omega)) ?_
   refine Qaa (.pointer (some ⟨gtT,otT+x*99,none⟩)) 42 rfl kj kj ?_
   refine Qaa (.bool true) 43 rfl kj (Qaj 4 _ _ (.bool true) ((NdAt.at3 hnt).1.trans (congrArg (fun z=>some (Value.bool z)) hq.1)) rfl kj kj) ?_
   refine Qaa (.bool true) 44 rfl kj kj ?_
   refine Qaa (.int .i64 ((x:Nat):Int)) 45 rfl kj kj ?_
   refine Qaa (.int .i64 ((x%2:Nat):Int)) 46 rfl kj (Qai (u:=.int .i64 (Int.tmod (((x:Nat):Int)) (2))) kj (congrArg (Value.int .i64) (Qc5 _ 2))) ?_
   refine Qaa (.bool true) 47 rfl kj (Qai (u:=.bool ((((x%2:Nat):Int)==1))) kj (congrArg Value.bool (beq_iff_eq.2 (by omega)))) ?_
   refine Qaa (.bool true) 48 rfl kj kj ?_
   refine Qaa (.bool true) 49 rfl kj kj ?_
   refine Qaa (.slice a_t ts.length c_t) 50 rfl kj kj ?_
   refine Qaa (.int .i64 ((x:Nat):Int)) 51 rfl kj kj ?_
   refine Qaa (.int .i64 ((L:Nat):Int)) 52 rfl kj kj ?_
   refine Qal (.bool (Qbj ts ((L:Nat):Int) x)) 42 #[.slice a_t ts.length c_t,.int .i64 ((x:Nat):Int),.int .i64 ((L:Nat):Int)] 53 rfl kj kj (Qlc ts a_t c_t _ _ (TrAt.ext ht xx1) L hL hlen hTr hmt htl x (by omega) (by omega)) fun W4 e4=>?_
   have x4:Ext w W4:=Ext.tr xx1 e4
   refine Qaa (.bool (!(Qbj ts ((L:Nat):Int) x))) 54 rfl kj kj ?_
   refine Qaa (.bool (!(Qbj ts ((L:Nat):Int) x))) 55 rfl kj kj ?_
   refine Qae ?_
   refine hK18 _ _ ?_
   refine Qat (t:=!(Qbj ts ((L:Nat):Int) x)) kj (fun c19=>?_) (fun c19=>?_)
   ·skip
    have hb:QaR ts ((L:Nat):Int) x=false:=by rw [hb0]; simpa using c19
    refine wp_seq_k fun K20 hK20=>?_
    refine Qab ?_
    refine Qaa (.bool false) 2 rfl kj kj ?_
    refine Qae ?_
    refine hK20 _ _ ?_
    refine wp_ret ?_
    repeat (first | with_reducible refine goR1 ?_ | with_reducible refine goR2 ?_)
    exact (show bodyPost _ _ _ .ret _ _ from ret1 (.bool false) rfl (Qam kj) ⟨congrArg (fun z=>Ending.returned (.bool z)) ((chk4 (Qbx hL) hlt21 hb)).symm,x4⟩)
   ·skip
    have hb:QaR ts ((L:Nat):Int) x=true:=by rw [hb0]; simpa using c19
    refine wp_skip ?_
    refine hK17 _ _ ?_
    refine wp_seq_k fun K21 hK21=>?_
    refine Qab ?_
    refine Qaa (.slice a_t ts.length c_t) 56 rfl kj kj ?_
    refine Qaa (.int .i64 ((x:Nat):Int)) 57 rfl kj kj ?_
    refine Qaa (.pointer (some ⟨gtT,otT+x*99,none⟩)) 58 rfl kj (Qao 23 _ _ .i64 (x) gtT otT ts.length c_t 41 99 a_t (hat (by omega)) rfl kj kj kj kj (by omega)) ?_
    refine Qaa (.pointer (some ⟨gtT,otT+x*99,none⟩)) 59 rfl kj kj ?_
    have y3_4:Ext V1 W4:=(Rely.Ext.trans (Rely.Ext.refl V1) e4)
    refine Qaa (.bool true) 60 rfl kj (Qaj 4 _ _ (.bool true) ((NdAt.at3 (NdAt.ext hnt y3_4)).1.trans (congrArg (fun z=>some (Value.bool z)) hq.1)) rfl kj kj) ?_
    refine Qaa (.bool true) 61 rfl kj kj ?_
    refine Qaa (.int .i64 ((x:Nat):Int)) 62 rfl kj kj ?_
    refine Qaa (.int .i64 ((x%2:Nat):Int)) 63 rfl kj (Qai (u:=.int .i64 (Int.tmod (((x:Nat):Int)) (2))) kj (congrArg (Value.int .i64) (Qc5 _ 2))) ?_
    refine Qaa (.bool false) 64 rfl kj (Qai (u:=.bool ((((x%2:Nat):Int)==0))) kj (congrArg Value.bool (beq_eq_false_iff_ne.2 (by omega)))) ?_
    refine Qaa (.bool false) 65 rfl kj kj ?_
    refine Qae ?_
    refine hK21 _ _ ?_
    refine cond_false kj ?_
    refine wp_skip ?_
    refine hK10 _ _ ?_
    refine Qab ?_
    refine Qaa (.int .i64 ((x:Nat):Int)) 22 rfl kj kj ?_
    refine Qaa (.int .i64 ((x+1:Nat):Int)) 23 rfl kj (Qai (u:=.int .i64 (IntKind.i64.wrap (((x:Nat):Int)+1))) kj (congrArg (Value.int .i64) (i64n _ _ (by omega) (by omega)))) ?_
    refine Qaa (.int .i64 ((x+1:Nat):Int)) 4 rfl kj kj ?_
    refine Qae ?_
    have y2_4:Ext W2 W4:=(Rely.Ext.trans e3 e4)
    repeat (first | with_reducible refine goX1 ?_ | with_reducible refine goX2 ?_ | with_reducible refine goX3 ?_)
    exact Qas (x+1) ⟨rfl,rfl,rfl,trivial⟩ ⟨(by omega),(fun j hj=>by by_cases e:j=x; (rw [e]; exact hb); exact hall j (by omega)),(by rw [show (x+1+1)/2=(x+1)/2 by omega]; exact hnd),y2_4,x4⟩ (by show ts.length-(x+1)<ts.length-x; omega)
  ·skip
   have hux:(ndi ts x).n.us=true:=ent▸hq.1
   have hb0:QaR ts ((L:Nat):Int) x=Qbj ts ((L:Nat):Int) x:=by unfold QaR; rw [if_pos hux]
   refine Qab ?_
   refine Qaa (.slice a_t ts.length c_t) 24 rfl kj kj ?_
   refine Qaa (.int .i64 ((x:Nat):Int)) 25 rfl kj kj ?_
   refine Qaa (.pointer (some ⟨gtT,otT+x*99,none⟩)) 26 rfl kj (Qao 23 _ _ .i64 (x) gtT otT ts.length c_t 41 99 a_t (hat (by omega)) rfl kj kj kj kj (by omega)) ?_
   refine Qaa (.pointer (some ⟨gtT,otT+x*99,none⟩)) 27 rfl kj kj ?_
   refine Qaa (.bool true) 28 rfl kj (Qaj 4 _ _ (.bool true) ((NdAt.at3 hnt).1.trans (congrArg (fun z=>some (Value.bool z)) hq.1)) rfl kj kj) ?_
   refine Qaa (.bool false) 29 rfl kj kj ?_
   refine Qaa (.bool false) 30 rfl kj kj ?_
   refine Qad 31 rfl kj ?_
   refine Qad 32 rfl kj ?_
   refine Qad 33 rfl kj ?_
   refine Qad 34 rfl kj ?_
   refine Qad 35 rfl kj ?_
   refine Qad 36 rfl kj ?_
   refine Qad 37 rfl kj ?_
   refine Qaa (.bool false) 38 rfl kj kj ?_
   refine Qae ?_
   refine hK12 _ _ ?_
   refine cond_false kj ?_
   refine wp_skip ?_
   refine hK11 _ _ ?_
   refine wp_seq_k fun K22 hK22=>?_
   refine wp_seq_k fun K23 hK23=>?_
   refine Qab ?_
   refine Qaa (.slice a_t ts.length c_t) 39 rfl kj kj ?_
   refine Qaa (.int .i64 ((x:Nat):Int)) 40 rfl kj kj ?_
   refine Qaa (.pointer (some ⟨gtT,otT+x*99,none⟩)) 41 rfl kj (Qao 23 _ _ .i64 (x) gtT otT ts.length c_t 41 99 a_t (hat (by omega)) rfl kj kj kj kj (by omega)) ?_
   refine Qaa (.pointer (some ⟨gtT,otT+x*99,none⟩)) 42 rfl kj kj ?_
   refine Qaa (.bool true) 43 rfl kj (Qaj 4 _ _ (.bool true) ((NdAt.at3 hnt).1.trans (congrArg (fun z=>some (Value.bool z)) hq.1)) rfl kj kj) ?_
   refine Qaa (.bool true) 44 rfl kj kj ?_
   refine Qaa (.int .i64 ((x:Nat):Int)) 45 rfl kj kj ?_
   refine Qaa (.int .i64 ((x%2:Nat):Int)) 46 rfl kj (Qai (u:=.int .i64 (Int.tmod (((x:Nat):Int)) (2))) kj (congrArg (Value.int .i64) (Qc5 _ 2))) ?_
   refine Qaa (.bool false) 47 rfl kj (Qai (u:=.bool ((((x%2:Nat):Int)==1))) kj (congrArg Value.bool (beq_eq_false_iff_ne.2 (by omega)))) ?_
   refine Qaa (.bool false) 48 rfl kj kj ?_
   refine Qaa (.bool false) 49 rfl kj kj ?_
   refine Qad 50 rfl kj ?_
   refine Qad 51 rfl kj ?_
   refine Qad 52 rfl kj ?_
   refine Qad 53 rfl kj ?_
   refine Qad 54 rfl kj ?_
   refine Qaa (.bool false) 55 rfl kj kj ?_
   refine Qae ?_
   refine hK23 _ _ ?_
   refine cond_false kj ?_
   refine wp_skip ?_
   refine hK22 _ _ ?_
   refine wp_seq_k fun K24 hK24=>?_
   refine Qab ?_
   refine Qaa (.slice a_t ts.length c_t) 56 rfl kj kj ?_
   refine Qaa (.int .i64 ((x:Nat):Int)) 57 rfl kj kj ?_
   refine Qaa (.pointer (some ⟨gtT,otT+x*99,none⟩)) 58 rfl kj (Qao 23 _ _ .i64 (x) gtT otT ts.length c_t 41 99 a_t (hat (by omega)) rfl kj kj kj kj (by omega)) ?_
   refine Qaa (.pointer (some ⟨gtT,otT+x*99,none⟩)) 59 rfl kj kj ?_
   refine Qaa (.bool true) 60 rfl kj (Qaj 4 _ _ (.bool true) ((NdAt.at3 hnt).1.trans (congrArg (fun z=>some (Value.bool z)) hq.1)) rfl kj kj) ?_
   refine Qaa (.bool true) 61 rfl kj kj ?_
   refine Qaa (.int .i64 ((x:Nat):Int)) 62 rfl kj kj ?_
   refine Qaa (.int .i64 ((x%2:Nat):Int)) 63 rfl kj (Qai (u:=.int .i64 (Int.tmod (((x:Nat):Int)) (2))) kj (congrArg (Value.int .i64) (Qc5 _ 2))) ?_
   refine Qaa (.bool true) 64 rfl kj (Qai (u:=.bool ((((x%2:Nat):Int)==0))) kj (congrArg Value.bool (beq_iff_eq.2 (by omega)))) ?_
   refine Qaa (.bool true) 65 rfl kj kj ?_
   refine Qae ?_
   refine hK24 _ _ ?_
   refine cond_true kj ?_
   refine wp_seq_k fun K25 hK25=>?_
   refine wp_seq_k fun K26 hK26=>?_
   refine Qab ?_
   refine Qaa (.slice a_t ts.length c_t) 66 rfl kj kj ?_
   refine Qaa (.int .i64 ((x:Nat):Int)) 67 rfl kj kj ?_
   refine Qaa (.pointer (some ⟨gtT,otT+x*99,none⟩)) 68 rfl kj (Qao 23 _ _ .i64 (x) gtT otT ts.length c_t 41 99 a_t (hat (by omega)) rfl kj kj kj kj (by omega)) ?_
   refine Qaa (.agg (cat [#[.bool nt.n.us],#[.int .i64 nt.n.nm],ints .u8 (nt.n.key),ints .u8 (nt.n.sg),ints .u8 (nt.n.pa),#[.slice nt.a nt.n.ms.length nt.c]])) 69 rfl kj (QaH 41 _ gtT (otT+x*99) nt hnt rfl kj kj kj) ?_
   refine Qal (.bool (QaO nt.n)) 43 #[.agg (cat [#[.bool nt.n.us],#[.int .i64 nt.n.nm],ints .u8 (nt.n.key),ints .u8 (nt.n.sg),ints .u8 (nt.n.pa),#[.slice nt.a nt.n.ms.length nt.c]])] 70 rfl kj kj (Qe9 nt okt _) fun W4 e4=>?_
   have x4:Ext w W4:=Ext.tr xx1 e4
   refine Qaa (.bool (!(QaO nt.n))) 71 rfl kj kj ?_
   refine Qae ?_
   refine hK26 _ _ ?_
   refine Qat (t:=!(QaO nt.n)) kj (fun c27=>?_) (fun c27=>?_)
   ·skip
    have hb:QaR ts ((L:Nat):Int) x=false:=by rw [hb0,Qch hq.2,←ent]; simpa using c27
    refine wp_seq_k fun K28 hK28=>?_
    refine Qab ?_
    refine Qaa (.bool false) 2 rfl kj kj ?_
    refine Qae ?_
    refine hK28 _ _ ?_
    refine wp_ret ?_
    repeat (first | with_reducible refine goR1 ?_ | with_reducible refine goR2 ?_)
    exact (show bodyPost _ _ _ .ret _ _ from ret1 (.bool false) rfl (Qam kj) ⟨congrArg (fun z=>Ending.returned (.bool z)) ((chk4 (Qbx hL) hlt21 hb)).symm,x4⟩)
   ·skip
    have hb:QaR ts ((L:Nat):Int) x=true:=by rw [hb0,Qch hq.2,←ent]; simpa using c27
    refine wp_skip ?_
    refine hK25 _ _ ?_
    refine wp_seq_k fun K29 hK29=>?_
    refine Qab ?_
    refine Qaa (.int .i64 0) 5 rfl kj kj ?_
    refine Qae ?_
    refine hK29 _ _ ?_
    refine wp_block ?_
    obtain ⟨mm,hmm⟩:∃ mm,x=2*mm:=⟨x/2,by omega⟩
    refine Qaz (fun (s2:Nat)=>[(0,.slice a_t ts.length c_t),(3,.int .i64 ((L:Nat):Int)),(4,.int .i64 ((x:Nat):Int)),(5,.int .i64 ((2*s2:Nat):Int))]) (fun (s2:Nat) W=>(s2≤100000)∧(∀ j2,j2<s2→(ndi ts (2*j2)).n.us=true→(ndi ts (2*j2)).n.nm≠(ndi ts (2*mm)).n.nm)∧(Ext W4 W)∧(Ext w W)) (fun (s2:Nat)=>ts.length-s2) 0 ⟨rfl,rfl,rfl,rfl,trivial⟩ ⟨(Nat.zero_le _),(fun j2 hj=>absurd hj (Nat.not_lt_zero j2)),(Rely.Ext.refl W4),x4⟩ fun s2 X2 V2 hI2=>?_
    obtain ⟨j,hs2⟩:∃ z,z=s2:=⟨_,rfl⟩
    subst hs2
    obtain ⟨hj,hjs,kk2,xx2⟩:=hI2
    replace hj:j≤100000:=hj
    replace hjs:∀ j2,j2<j→(ndi ts (2*j2)).n.us=true→(ndi ts (2*j2)).n.nm≠(ndi ts (2*mm)).n.nm:=hjs
    replace kk2:Ext W4 V2:=kk2
    replace xx2:Ext w V2:=xx2
    have e5:=kk2
    refine wp_seq_k fun K30 hK30=>?_
    refine wp_seq_k fun K31 hK31=>?_
    refine Qab ?_
    refine Qaa (.int .i64 ((2*j:Nat):Int)) 72 rfl kj kj ?_
    refine Qaa (.int .i64 ((x:Nat):Int)) 73 rfl kj kj ?_
    refine Qaa (.bool (decide (((2*j:Nat):Int)<((x:Nat):Int)))) 74 rfl kj kj ?_
    refine Qae ?_
    refine hK31 _ _ ?_
    refine Qat (t:=decide (((2*j:Nat):Int)<((x:Nat):Int))) kj (fun c32=>?_) (fun c32=>?_)
    ·skip
     have h74:2*j<x:=by have:=of_decide_eq_true c32; omega
     refine wp_skip ?_
     refine hK30 _ _ ?_
     refine wp_seq_k fun K33 hK33=>?_
     refine wp_block ?_
     refine wp_seq_k fun K34 hK34=>?_
     obtain ⟨gyT,oyT,hay,hnys⟩:=TrAt.ext ht xx2
     have hny:=hnys (2*j) (by omega)
     obtain ⟨ny,eny⟩:∃ z,z=ndi ts (2*j):=⟨_,rfl⟩
     rw [←eny] at hny
     have oky:=hny.ok
     have rdy:=hny.rd
     obtain ⟨gzT,ozT,haz,hnzs⟩:=TrAt.ext ht xx2
     have hnz:=hnzs (x) (by omega)
     obtain ⟨nz,enz⟩:∃ z,z=ndi ts (x):=⟨_,rfl⟩
     rw [←enz] at hnz
     have okz:=hnz.ok
     have rdz:=hnz.rd
     rcases (show ny.n.us=false∨(ny.n.us=true∧ny.n.nm=nz.n.nm)∨(ny.n.us=true∧ny.n.nm≠nz.n.nm) from by cases h8:ny.n.us; exact .inl rfl; by_cases h7:ny.n.nm=nz.n.nm; exact .inr (.inl ⟨rfl,h7⟩); exact .inr (.inr ⟨rfl,h7⟩)) with hq | hq | hq
     ·skip
      have hjn:(ndi ts (2*j)).n.us=true→(ndi ts (2*j)).n.nm≠(ndi ts (2*mm)).n.nm:=fun h1=>by rw [←eny,hq] at h1; cases h1
      refine Qbl 16 [⟨none,[(0,none)]⟩,⟨none,[(5,none)]⟩,⟨none,[(77,some 0),(78,some 1)]⟩,⟨none,[(79,some 2)]⟩,⟨none,[(80,some 3)]⟩,⟨none,[(81,some 4)]⟩,⟨some (82,true),[(0,none),(82,some 5)]⟩,⟨some (82,true),[(5,none),(82,some 5)]⟩,⟨some (82,true),[(83,some 6),(84,some 7),(82,some 5)]⟩,⟨some (82,true),[(85,some 8),(82,some 5)]⟩,⟨some (82,true),[(86,some 9),(82,some 5)]⟩,⟨some (82,true),[(0,none),(82,some 5)]⟩,⟨some (82,true),[(4,none),(82,some 5)]⟩,⟨some (82,true),[(88,some 11),(89,some 12),(82,some 5)]⟩,⟨some (82,true),[(90,some 13),(82,some 5)]⟩,⟨some (82,true),[(91,some 14),(82,some 5)]⟩] kj kj fun F hF=>?_
      refine QaJ (Qaw _) (.slice a_t ts.length c_t) kj kj (fun W=>by kernel_rfl) ?_
      refine QaJ (Qaw _) (.int .i64 ((2*j:Nat):Int)) kj kj (fun W=>by kernel_rfl) ?_
      refine QaJ (Qaw _) (.pointer (some ⟨gyT,oyT+(2*j)*99,none⟩)) kj kj (fun W=>(Qao 23 _ _ .i64 (2*j) gyT oyT ts.length c_t 41 99 a_t (hay (by omega)) rfl kj kj kj kj (by omega))) ?_
      refine QaJ (Qaw _) (.pointer (some ⟨gyT,oyT+(2*j)*99,none⟩)) kj kj (fun W=>by kernel_rfl) ?_
      refine Qbc (Qaw _) (.bool false) kj kj (fun W hR=>(Qaj 4 _ _ (.bool false) (((NdAt.at3 (NdAt.ext hny (Rely.Ext.trans (Qa0 _) hR))).1).trans (congrArg (fun z=>some (Value.bool z)) hq)) rfl kj kj)) ?_
      refine QaJ (Qaw _) (.bool false) kj kj (fun W=>by kernel_rfl) ?_
      refine QbR kj kj ?_
      refine QbR kj kj ?_
      refine QbR kj kj ?_
      refine QbR kj kj ?_
      refine QbR kj kj ?_
      refine QbR kj kj ?_
      refine QbR kj kj ?_
      refine QbR kj kj ?_
      refine QbR kj kj ?_
      refine QbR kj kj ?_
      refine Qer (hF _ fun W6 e6=>?_)
      simp only [List.nil_append,List.cons_append,List.take_succ_cons,List.take_zero,List.drop_succ_cons,List.drop_zero,finE,up]
      clear hF
      have x6:Ext w W6:=Ext.tr xx2 e6
      refine Qad 93 rfl kj ?_
      refine Qaa (.bool false) 94 rfl kj kj ?_
      refine Qae ?_
      refine hK34 _ _ ?_
      refine cond_false kj ?_
      refine wp_skip ?_
      refine hK33 _ _ ?_
      refine Qab ?_
      refine Qaa (.int .i64 ((2*j:Nat):Int)) 75 rfl kj kj ?_
      refine Qaa (.int .i64 (((2*(j+1):Nat):Int))) 76 rfl kj (Qai (u:=.int .i64 (IntKind.i64.wrap (((2*j:Nat):Int)+2))) kj (congrArg (Value.int .i64) ((IntWalk.i64_in _ (by omega)).trans (by omega)))) ?_
      refine Qaa (.int .i64 (((2*(j+1):Nat):Int))) 5 rfl kj kj ?_
      refine Qae ?_
      have y4_6:Ext W4 W6:=(Rely.Ext.trans e5 e6)
      repeat (first | with_reducible refine goX1 ?_ | with_reducible refine goX2 ?_ | with_reducible refine goX3 ?_)
      exact Qas (j+1) ⟨rfl,rfl,rfl,rfl,trivial⟩ ⟨(by omega),(fun j2 hj=>by by_cases e:j2=j; (rw [e]; exact hjn); exact hjs j2 (by omega)),y4_6,x6⟩ (by show ts.length-(j+1)<ts.length-j; omega)
     ·skip
      have hbad:chkT ts=false:=chk1 (QhQ (m:=mm) (j:=j) (by omega) (by omega) (by rw [←eny]; exact hq.1) (by rw [←hmm]; exact hux) (by rw [←hmm,←eny,←enz]; exact hq.2))
      refine Qbl 16 [⟨none,[(0,none)]⟩,⟨none,[(5,none)]⟩,⟨none,[(77,some 0),(78,some 1)]⟩,⟨none,[(79,some 2)]⟩,⟨none,[(80,some 3)]⟩,⟨none,[(81,some 4)]⟩,⟨some (82,true),[(0,none),(82,some 5)]⟩,⟨some (82,true),[(5,none),(82,some 5)]⟩,⟨some (82,true),[(83,some 6),(84,some 7),(82,some 5)]⟩,⟨some (82,true),[(85,some 8),(82,some 5)]⟩,⟨some (82,true),[(86,some 9),(82,some 5)]⟩,⟨some (82,true),[(0,none),(82,some 5)]⟩,⟨some (82,true),[(4,none),(82,some 5)]⟩,⟨some (82,true),[(88,some 11),(89,some 12),(82,some 5)]⟩,⟨some (82,true),[(90,some 13),(82,some 5)]⟩,⟨some (82,true),[(91,some 14),(82,some 5)]⟩] kj kj fun F hF=>?_
      refine QaJ (Qaw _) (.slice a_t ts.length c_t) kj kj (fun W=>by kernel_rfl) ?_
      refine QaJ (Qaw _) (.int .i64 ((2*j:Nat):Int)) kj kj (fun W=>by kernel_rfl) ?_
      refine QaJ (Qaw _) (.pointer (some ⟨gyT,oyT+(2*j)*99,none⟩)) kj kj (fun W=>(Qao 23 _ _ .i64 (2*j) gyT oyT ts.length c_t 41 99 a_t (hay (by omega)) rfl kj kj kj kj (by omega))) ?_
      refine QaJ (Qaw _) (.pointer (some ⟨gyT,oyT+(2*j)*99,none⟩)) kj kj (fun W=>by kernel_rfl) ?_
      refine Qbc (Qaw _) (.bool true) kj kj (fun W hR=>(Qaj 4 _ _ (.bool true) (((NdAt.at3 (NdAt.ext hny (Rely.Ext.trans (Qa0 _) hR))).1).trans (congrArg (fun z=>some (Value.bool z)) hq.1)) rfl kj kj)) ?_
      refine QaJ (Qaw _) (.bool true) kj kj (fun W=>by kernel_rfl) ?_
      refine QaJ (Qaw _) (.slice a_t ts.length c_t) kj kj (fun W=>by kernel_rfl) ?_
      refine QaJ (Qaw _) (.int .i64 ((2*j:Nat):Int)) kj kj (fun W=>by kernel_rfl) ?_
      refine QaJ (Qaw _) (.pointer (some ⟨gyT,oyT+(2*j)*99,none⟩)) kj kj (fun W=>(Qao 23 _ _ .i64 (2*j) gyT oyT ts.length c_t 41 99 a_t (hay (by omega)) rfl kj kj kj kj (by omega))) ?_
      refine QaJ (Qaw _) (.pointer (some ⟨gyT,oyT+(2*j)*99+1,none⟩)) kj kj (fun W=>by kernel_rfl) ?_
      refine Qbc (Qaw _) (.int .i64 ny.n.nm) kj kj (fun W hR=>(Qaj 3 _ _ (.int .i64 ny.n.nm) (NdAt.at3 (NdAt.ext hny (Rely.Ext.trans (Qa0 _) hR))).2.1 rfl kj kj)) ?_
      refine QaJ (Qaw _) (.slice a_t ts.length c_t) kj kj (fun W=>by kernel_rfl) ?_
      refine QaJ (Qaw _) (.int .i64 ((x:Nat):Int)) kj kj (fun W=>by kernel_rfl) ?_
      refine QaJ (Qaw _) (.pointer (some ⟨gzT,ozT+(x)*99,none⟩)) kj kj (fun W=>(Qao 23 _ _ .i64 (x) gzT ozT ts.length c_t 41 99 a_t (haz (by omega)) rfl kj kj kj kj (by omega))) ?_
      refine QaJ (Qaw _) (.pointer (some ⟨gzT,ozT+(x)*99+1,none⟩)) kj kj (fun W=>by kernel_rfl) ?_
      refine Qbc (Qaw _) (.int .i64 nz.n.nm) kj kj (fun W hR=>(Qaj 3 _ _ (.int .i64 nz.n.nm) (NdAt.at3 (NdAt.ext hnz (Rely.Ext.trans (Qa0 _) hR))).2.1 rfl kj kj)) ?_
      refine Qer (hF _ fun W6 e6=>?_)
      simp only [List.nil_append,List.cons_append,List.take_succ_cons,List.take_zero,List.drop_succ_cons,List.drop_zero,finE,up]
      clear hF
      have x6:Ext w W6:=Ext.tr xx2 e6
      refine Qaa (.bool true) 93 rfl kj (Qai (u:=.bool ((ny.n.nm==nz.n.nm))) kj (congrArg Value.bool (beq_iff_eq.2 hq.2))) ?_
      refine Qaa (.bool true) 94 rfl kj kj ?_
      refine Qae ?_
      refine hK34 _ _ ?_
      refine cond_true kj ?_
      refine wp_seq_k fun K35 hK35=>?_
      refine Qab ?_
      refine Qaa (.bool false) 2 rfl kj kj ?_
      refine Qae ?_
      refine hK35 _ _ ?_
      refine wp_ret ?_
      repeat (first | with_reducible refine goR1 ?_ | with_reducible refine goR2 ?_)
      exact (show bodyPost _ _ _ .ret _ _ from ret1 (.bool false) rfl (Qam kj) ⟨congrArg (fun z=>Ending.returned (.bool z)) (hbad).symm,x6⟩)
     ·skip
      have hjn:(ndi ts (2*j)).n.us=true→(ndi ts (2*j)).n.nm≠(ndi ts (2*mm)).n.nm:=fun h1=>by rw [←hmm,←eny,←enz]; exact hq.2
      refine Qbl 16 [⟨none,[(0,none)]⟩,⟨none,[(5,none)]⟩,⟨none,[(77,some 0),(78,some 1)]⟩,⟨none,[(79,some 2)]⟩,⟨none,[(80,some 3)]⟩,⟨none,[(81,some 4)]⟩,⟨some (82,true),[(0,none),(82,some 5)]⟩,⟨some (82,true),[(5,none),(82,some 5)]⟩,⟨some (82,true),[(83,some 6),(84,some 7),(82,some 5)]⟩,⟨some (82,true),[(85,some 8),(82,some 5)]⟩,⟨some (82,true),[(86,some 9),(82,some 5)]⟩,⟨some (82,true),[(0,none),(82,some 5)]⟩,⟨some (82,true),[(4,none),(82,some 5)]⟩,⟨some (82,true),[(88,some 11),(89,some 12),(82,some 5)]⟩,⟨some (82,true),[(90,some 13),(82,some 5)]⟩,⟨some (82,true),[(91,some 14),(82,some 5)]⟩] kj kj fun F hF=>?_
      refine QaJ (Qaw _) (.slice a_t ts.length c_t) kj kj (fun W=>by kernel_rfl) ?_
      refine QaJ (Qaw _) (.int .i64 ((2*j:Nat):Int)) kj kj (fun W=>by kernel_rfl) ?_
      refine QaJ (Qaw _) (.pointer (some ⟨gyT,oyT+(2*j)*99,none⟩)) kj kj (fun W=>(Qao 23 _ _ .i64 (2*j) gyT oyT ts.length c_t 41 99 a_t (hay (by omega)) rfl kj kj kj kj (by omega))) ?_
      refine QaJ (Qaw _) (.pointer (some ⟨gyT,oyT+(2*j)*99,none⟩)) kj kj (fun W=>by kernel_rfl) ?_
      refine Qbc (Qaw _) (.bool true) kj kj (fun W hR=>(Qaj 4 _ _ (.bool true) (((NdAt.at3 (NdAt.ext hny (Rely.Ext.trans (Qa0 _) hR))).1).trans (congrArg (fun z=>some (Value.bool z)) hq.1)) rfl kj kj)) ?_
      refine QaJ (Qaw _) (.bool true) kj kj (fun W=>by kernel_rfl) ?_
      refine QaJ (Qaw _) (.slice a_t ts.length c_t) kj kj (fun W=>by kernel_rfl) ?_
      refine QaJ (Qaw _) (.int .i64 ((2*j:Nat):Int)) kj kj (fun W=>by kernel_rfl) ?_
      refine QaJ (Qaw _) (.pointer (some ⟨gyT,oyT+(2*j)*99,none⟩)) kj kj (fun W=>(Qao 23 _ _ .i64 (2*j) gyT oyT ts.length c_t 41 99 a_t (hay (by omega)) rfl kj kj kj kj (by omega))) ?_
      refine QaJ (Qaw _) (.pointer (some ⟨gyT,oyT+(2*j)*99+1,none⟩)) kj kj (fun W=>by kernel_rfl) ?_
      refine Qbc (Qaw _) (.int .i64 ny.n.nm) kj kj (fun W hR=>(Qaj 3 _ _ (.int .i64 ny.n.nm) (NdAt.at3 (NdAt.ext hny (Rely.Ext.trans (Qa0 _) hR))).2.1 rfl kj kj)) ?_
      refine QaJ (Qaw _) (.slice a_t ts.length c_t) kj kj (fun W=>by kernel_rfl) ?_
      refine QaJ (Qaw _) (.int .i64 ((x:Nat):Int)) kj kj (fun W=>by kernel_rfl) ?_
      refine QaJ (Qaw _) (.pointer (some ⟨gzT,ozT+(x)*99,none⟩)) kj kj (fun W=>(Qao 23 _ _ .i64 (x) gzT ozT ts.length c_t 41 99 a_t (haz (by omega)) rfl kj kj kj kj (by omega))) ?_
      refine QaJ (Qaw _) (.pointer (some ⟨gzT,ozT+(x)*99+1,none⟩)) kj kj (fun W=>by kernel_rfl) ?_
      refine Qbc (Qaw _) (.int .i64 nz.n.nm) kj kj (fun W hR=>(Qaj 3 _ _ (.int .i64 nz.n.nm) (NdAt.at3 (NdAt.ext hnz (Rely.Ext.trans (Qa0 _) hR))).2.1 rfl kj kj)) ?_
      refine Qer (hF _ fun W6 e6=>?_)
      simp only [List.nil_append,List.cons_append,List.take_succ_cons,List.take_zero,List.drop_succ_cons,List.drop_zero,finE,up]
      clear hF
      have x6:Ext w W6:=Ext.tr xx2 e6
      refine Qaa (.bool false) 93 rfl kj (Qai (u:=.bool ((ny.n.nm==nz.n.nm))) kj (congrArg Value.bool (beq_eq_false_iff_ne.2 hq.2))) ?_
      refine Qaa (.bool false) 94 rfl kj kj ?_
      refine Qae ?_
      refine hK34 _ _ ?_
      refine cond_false kj ?_
      refine wp_skip ?_
      refine hK33 _ _ ?_
      refine Qab ?_
      refine Qaa (.int .i64 ((2*j:Nat):Int)) 75 rfl kj kj ?_
      refine Qaa (.int .i64 (((2*(j+1):Nat):Int))) 76 rfl kj (Qai (u:=.int .i64 (IntKind.i64.wrap (((2*j:Nat):Int)+2))) kj (congrArg (Value.int .i64) ((IntWalk.i64_in _ (by omega)).trans (by omega)))) ?_
      refine Qaa (.int .i64 (((2*(j+1):Nat):Int))) 5 rfl kj kj ?_
      refine Qae ?_
      have y4_6:Ext W4 W6:=(Rely.Ext.trans e5 e6)
      repeat (first | with_reducible refine goX1 ?_ | with_reducible refine goX2 ?_ | with_reducible refine goX3 ?_)
      exact Qas (j+1) ⟨rfl,rfl,rfl,rfl,trivial⟩ ⟨(by omega),(fun j2 hj=>by by_cases e:j2=j; (rw [e]; exact hjn); exact hjs j2 (by omega)),y4_6,x6⟩ (by show ts.length-(j+1)<ts.length-j; omega)
    ·skip
     have h74:¬ 2*j<x:=by have:=of_decide_eq_false c32; omega
     refine wp_exit ?_
     refine hK10 _ _ ?_
     refine Qab ?_
     refine Qaa (.int .i64 ((x:Nat):Int)) 22 rfl kj kj ?_
     refine Qaa (.int .i64 ((x+1:Nat):Int)) 23 rfl kj (Qai (u:=.int .i64 (IntKind.i64.wrap (((x:Nat):Int)+1))) kj (congrArg (Value.int .i64) (i64n _ _ (by omega) (by omega)))) ?_
     refine Qaa (.int .i64 ((x+1:Nat):Int)) 4 rfl kj kj ?_
     refine Qae ?_
     have y2_4:Ext W2 W4:=(Rely.Ext.trans e3 e4)
     have y2_5:Ext W2 V2:=(Rely.Ext.trans y2_4 e5)
     repeat (first | with_reducible refine goX1 ?_ | with_reducible refine goX2 ?_ | with_reducible refine goX3 ?_)
     exact Qas (x+1) ⟨rfl,rfl,rfl,trivial⟩ ⟨(by omega),(fun j hj=>by by_cases e:j=x; (rw [e]; exact hb); exact hall j (by omega)),(by rw [show (x+1+1)/2=mm+1 by omega]; exact QiV (by rw [show (x+1)/2=mm by omega] at hnd; exact hnd) (fun j2 hj=>hjs j2 (by omega))),y2_5,xx2⟩ (by show ts.length-(x+1)<ts.length-x; omega)
 ·skip
  have heq21:x=ts.length:=by have:=of_decide_eq_false c9; omega
  refine wp_exit ?_
  refine hK5 _ _ ?_
  refine wp_seq_k fun K36 hK36=>?_
  refine Qab ?_
  refine Qaa (.bool true) 2 rfl kj kj ?_
  refine Qae ?_
  refine hK36 _ _ ?_
  refine wp_ret ?_
  repeat (first | with_reducible refine goR1 ?_ | with_reducible refine goR2 ?_)
  exact (show bodyPost _ _ _ .ret _ _ from ret1 (.bool true) rfl (Qam kj) ⟨congrArg (fun z=>Ending.returned (.bool z)) (((chk3 (Qbx hL) h0 (decide_eq_true (heq21▸hnd)) h2).trans (Qf7 (heq21▸hall)))).symm,xx1⟩)
theorem QlT (ts : List NdV) (a_t:Option Addr) (c_t B1:Nat) (w:World) (ht:TrAt B1 w a_t ts) (htl:ts.length≤100000) (hmt:∀ i,i<ts.length→(ndi ts i).n.ms.length≤1000000):Calls Tryd.prog 12 #[.slice a_t ts.length c_t] w (Ret w (.bool (chkT ts))):=by
  obtain ⟨L,hL,hL2,-,hL4⟩:=Qdu ts.length htl
  by_cases h0:L=0
  · exact Ql9 ts a_t c_t B1 w ht htl hmt L hL hL2 hL4 h0
  cases h2:anyU ts (L/2) with
  | false=>exact Ql8 ts a_t c_t B1 w ht htl hmt L hL hL2 hL4 h0 h2
  | true=>exact Ql7 ts a_t c_t B1 w ht htl hmt L hL hL2 hL4 h0 h2
end Go.Proofs.YtcmaolmofgmkhaaDoor.Te
end
section
namespace Go.Proofs.YtcmaolmofgmkhaaDoor.Te
open Go Go.RowKit
open Rely Auto Own Seat Sha
theorem Qjv {ts : List NdV} (h:∀ i,i<ts.length→i≤70∧(ndi ts i).n.ms.length≤50):ts.length≤71:=by
  rcases Nat.lt_or_ge 71 ts.length with h1 | h1
  · have:=(h 71 h1).1; omega
  · exact h1
theorem QgT (n : NdC):Qc0 n n=true:=by unfold Qc0; simp
theorem Qeo (ts : List NdV) (a_t:Option Addr) (c_t B1:Nat) (w:World) (ht:TrAt B1 w a_t ts) (htl:ts.length≤100000) (hmt:∀ i,i<ts.length→(ndi ts i).n.ms.length≤1000000) (b:Bool) (h:chkT ts=b):Calls Tryd.prog 12 #[.slice a_t ts.length c_t] w (Ret w (.bool b)):=h▸QlT ts a_t c_t B1 w ht htl hmt
end Go.Proofs.YtcmaolmofgmkhaaDoor.Te
end
section
namespace Go.Proofs.YtcmaolmofgmkhaaDoor.Te
open Go Go.RowKit
open Rely Auto Own Seat Sha
end Go.Proofs.YtcmaolmofgmkhaaDoor.Te
end
section
namespace Go.Proofs.YtcmaolmofgmkhaaDoor.Te
open Go Go.RowKit
open Rely Auto Own Seat Sha
def dbl (i : Int):Int:=IntKind.i64.wrap (2*i)
end Go.Proofs.YtcmaolmofgmkhaaDoor.Te
end
section
namespace Go.Proofs.YtcmaolmofgmkhaaDoor.Te
open Go Go.RowKit
open Rely Auto Own Seat Sha
end Go.Proofs.YtcmaolmofgmkhaaDoor.Te
end
section
namespace Go.Proofs.YtcmaolmofgmkhaaDoor.Te
open Go Go.RowKit
open Rely Auto Own Seat Sha
def cov (ts : List NdV) (n x i:Int):Bool:=decide ((bel x n).1≤i)&&decide (i≤(bel x n).2)&&!(decide (x%2=1)&&decide (i∈(ndi ts x.toNat).n.ms))
def cnt (ts : List NdV) (n:Int) (xs:List Int) (i:Int):Nat:=xs.countP fun x=>cov ts n x i
theorem Qei {j n:Int} (hn:Qax n=true) (h0:0≤j) (h1:j<n):Qau (2*j) n=true:=by unfold Qau; rw [hn]; simp; omega
theorem Qee {ts : List NdV} {L:Nat} (hL:leaves ((ts.length:Nat):Int)=((L:Nat):Int)) (h:chkT ts=true) {x:Nat} (hx:x<ts.length):QaR ts ((L:Nat):Int) x=true:=by
  unfold chkT at h
  rw [Qbx hL] at h
  simp only [Bool.and_eq_true] at h
  exact List.all_eq_true.1 h.2 x (List.mem_range.2 hx)
theorem QdP {ts : List NdV} {L:Nat} (hL:leaves ((ts.length:Nat):Int)=((L:Nat):Int)) (h:chkT ts=true) {x:Nat} (hx:x<ts.length) (hu:(ndi ts x).n.us=true):Qbj ts ((L:Nat):Int) x=true:=by
  have:=Qee hL h hx
  unfold QaR at this
  rwa [if_pos hu] at this
theorem Qi1 {ts : List NdV} {n:Int} {x:Nat} (he:x%2≠0) (h:Qbj ts n x=true):∀ k,k<(ndi ts x).n.ms.length→msOk ts n ((x:Nat):Int) (ndi ts x).n.ms k=true:=by
  unfold Qbj at h
  rw [if_neg he] at h
  simp only [Bool.and_eq_true] at h
  exact fun k hk=>List.all_eq_true.1 h.2 k (List.mem_range.2 hk)
theorem rises {ms : List Int} (h:∀ k,k<ms.length→k=0∨nth ms (k-1)<nth ms k):∀ k,k<ms.length→∀ j,j<k→nth ms j<nth ms k:=by
  intro k
  induction k with
  | zero=>intro _ j hj; omega
  | succ k ih =>
    intro hk j hj
    have h1:=(h (k+1) hk).resolve_left (by omega)
    rw [Nat.add_sub_cancel] at h1
    rcases Nat.lt_or_ge j k with h2 | h2
    · exact Int.lt_trans (ih (by omega) j h2) h1
    · obtain rfl:j=k:=by omega
      exact h1
theorem QhJ {ms : List Int} {i:Int} (h:i∈ms):∃ k,k<ms.length∧nth ms k=i:=by
  obtain ⟨k,hk,e⟩:=List.mem_iff_getElem.1 h
  exact ⟨k,hk,by unfold nth; rw [List.getD_eq_getElem?_getD,List.getElem?_eq_getElem hk]; exact e⟩
structure Qmi (ts : List NdV) (L : Nat) (x : Nat) (rs : List Int) : Prop where
  node:∀ z∈rs,Qau z ((L:Nat):Int)=true
  out:∀ i:Int,i<(bel ((x:Nat):Int) ((L:Nat):Int)).1∨(bel ((x:Nat):Int) ((L:Nat):Int)).2<i→cnt ts ((L:Nat):Int) rs i=0
  most:∀ i:Int,cnt ts ((L:Nat):Int) rs i≤1
  one:∀ i:Nat,(bel ((x:Nat):Int) ((L:Nat):Int)).1≤((i:Nat):Int)→((i:Nat):Int)≤(bel ((x:Nat):Int) ((L:Nat):Int)).2→(ndi ts (2*i)).n.us=true→cnt ts ((L:Nat):Int) rs ((i:Nat):Int)=1
end Go.Proofs.YtcmaolmofgmkhaaDoor.Te
end
