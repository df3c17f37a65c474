/- Texts of this claim, joined (R5). -/
import Derived.Test.YtophlgnnjjkkiaaDoorZR4
import Derived.Laws.BitsAll

set_option linter.unusedVariables false
set_option linter.unusedSimpArgs false
set_option maxHeartbeats 4000000
section
namespace Go.Proofs.YtophlgnnjjkkiaaDoor.Ad
open Go Go.RowKit
open Rely Auto Own
theorem Qgu (x : Int):IntKind.u8.wrap x=x%256:=by
  have:IntKind.u8.wrap x=x%2^8:=rfl
  rw [this]; rfl
theorem Ql0 {bs : List Int} {j k:Nat} (hj:j<bs.length) (h:bs.take j=patL k j):(bs.set j (pat k j)).take (j+1)=patL k (j+1):=by
  rw [QgO,←h,List.take_add_one,List.take_set_of_le (qR _),List.getElem?_set_self hj]
  rfl
theorem QkK {bs : List Int} {n k:Nat} (hn:bs.length=n) (h:bs.take n=patL k n):bs=patL k n:=by rw [←h,List.take_of_length_le (by omega)]
theorem bx {base : Nat} {w W W':World} (hb:base≤w.heap.size) (x:Below base w W) (e:Ext W W'):Below base w W':=Below.trans x (Below.mono e (qT hb x.size))
theorem QiG {base g:Nat} {w W W':World} (p:Puts W g W') (x:Below base w W) (hg:base≤g):Below base w W' :=
  ⟨p.1.trans x.os,p.2.1.trans x.tape,p.2.2.1.trans x.output,by have:=x.size; have:=p.2.2.2.1; omega,fun k hk=>(p.2.2.2.2 k (by omega)).trans (x.block k hk)⟩
theorem i64n (a : Int) (m:Nat) (e:a=(m:Int)) (h:m≤5000000000):IntKind.i64.wrap a=(m:Int):=by subst e; exact IntWalk.i64_in _ (by omega)
def Fill (base L k:Nat) (V:Nat→Value) (N:Nat→Nat) (W:World):Prop:=∀ i,i<L→∃ bs,bs.length=N i∧OwnV base bs (V i) W∧(i<k→bs=patL i (N i))
def Qf3 (base L k:Nat) (V:Nat→Value) (N:Nat→Nat) (W:World):Prop:=∀ i,i<L→i≠k→∃ bs,bs.length=N i∧OwnV base bs (V i) W∧(i<k→bs=patL i (N i))
theorem Fill.others {base L k:Nat} {V:Nat→Value} {N:Nat→Nat} {W:World} (h:Fill base L k V N W):Qf3 base L k V N W:=fun i hi _=>h i hi
theorem Qf3.fill {base L k:Nat} {V:Nat→Value} {N:Nat→Nat} {W:World} (h:Qf3 base L k V N W) {bs:List Int} (h1:bs.length=N k) (h2:OwnV base bs (V k) W) (h3:bs=patL k (N k)):Fill base L (k+1) V N W:=fun i hi=>by
  by_cases e:i=k
  · subst e; exact ⟨bs,h1,h2,fun _=>h3⟩
  · obtain ⟨b,q1,q2,q3⟩:=h i hi e
    exact ⟨b,q1,q2,fun hl=>q3 (by omega)⟩
def Dist (L : Nat) (V:Nat→Value):Prop:=∀ i j,i<L→j<L→i≠j→(V i).ownBlock=(V j).ownBlock→(V i).ownBlock=none
theorem Qf3.puts {base L k g n c:Nat} {V:Nat→Value} {N:Nat→Nat} {W W':World} (h:Qf3 base L k V N W) (hd:Dist L V) (hk:k<L) (hv:V k=.slice (some ⟨g,0,none⟩) n c) (p:Puts W g W'):Qf3 base L k V N W':=fun i hi hn=>by
  obtain ⟨b,q1,q2,q3⟩:=h i hi hn
  refine ⟨b,q1,q2.below fun g' hg'=>p.2.2.2.2 g' fun e=>?_,q3⟩
  subst e
  have h1:=hd i k hi hk hn (by rw [hg',hv]; rfl)
  rw [h1] at hg'; cases hg'
section
variable {ds : List Deferred} {ops : Array Oper} {Q : Exit → Act → World → Prop} {rest : List Oper} {o : Oper} {N : Nat} {L : Env} {W : World}
theorem Qi6 (x y:Operand) (g j:Nat) (z:Int) {base c:Nat} {cur:Array Value} {bs:List Int} (h:Qd0 base g c cur bs W) (hj:j<bs.length)
    (ho:o.op=.store 5 x y) (hx:Rely.look (envN N L) x=.pointer (some ⟨g,j,none⟩)) (hy:Rely.look (envN N L) y=.int .u8 z) (hd:o.dst=none) (hw:Qce ops o N L=some true)
    (k:∀ (cur':Array Value) (W':World),Qd0 base g c cur' (bs.set j z) W'→Puts W g W'→WL Tryd.prog ops Q rest (Qa4 ds N L) W'):WL Tryd.prog ops Q (o::rest) (Qa4 ds N L) W:=by
  obtain ⟨h1,h2⟩:=Qjd (o:=o) (W:=W) x y g j z h hj ho hx hy
  exact Qg5 _ hd hw h1 (k _ _ h2 (Qb1 _ _ _))
end
theorem Fill.full {base L:Nat} {V:Nat→Value} {N:Nat→Nat} {W:World} (h:Fill base L L V N W):Full base L V N W:=fun i hi=>by
  obtain ⟨bs,h1,h2,h3⟩:=h i hi
  rw [←h3 hi]; exact h2
theorem Mid.done' {base L k m:Nat} {V:Nat→Value} {N:Nat→Nat} {G:List Value} {u:Value} {g:Nat} {cur:Array Value} {W W':World} (h:Mid base L k m V N G u W) (hm:m=N k+10) (hk:k<L) (hl:G.length=k) (hg:Gd L k V G) (r:W.heap[g]? = some (.cells cur 33)) (e:ExtB g W W') :
    Full base L V N W'∧QeV base (k+1) N (G++[u]) W'∧Gd L (k+1) V (G++[u]):=by
  subst hm; exact h.done hk hl hg r e
theorem QcO {V W:World} {b o:Nat} {v:Value} (h:V.cell? ⟨b,o,none⟩=some v) (e:Ext V W):W.cell? ⟨b,o,none⟩=some v:=by rw [e.cell (QdZ h)]; exact h
theorem OwnL.cell {base g c i:Nat} {cur:Array Value} {G:List Value} {W:World} (h:OwnL base g c cur G W) (hi:i<G.length):W.cell? ⟨g,i,none⟩=some (gv G i):=by
  refine QbP h.2.1 ?_
  have e:(cur.toList.take G.length)[i]? = G[i]?:=by rw [h.2.2.2.2.2]
  rw [List.getElem?_take_of_lt hi] at e
  rw [←Array.getElem?_toList,e]
  simp [gv,hi]
theorem QeX {base g:Nat} {bs:List Int} {v v':Value} {cur:Array Value} {W W':World} (r:W.heap[g]? = some (.cells cur 33)) (hv:OwnV base bs v W) (hw:Went v v' W W'):W'.heap[g]? = some (.cells cur 33):=by
  rcases hw with ⟨g',n,c',rfl,_,he⟩ | ⟨_,he⟩
  · refine (he.2.2.2.2 g (Qau r) ?_).trans r
    rcases hv with ⟨e,_⟩ | ⟨g2,_,_,e,_,h2,_⟩
    · cases e
    · simp only [Value.slice.injEq,Option.some.injEq,Addr.mk.injEq] at e
      rw [e.1.1]
      exact (Qfa h2 r (by decide)).symm
  · exact Qaa r he
theorem QeC {base g:Nat} {w W W':World} (e:ExtB g W W') (x:Below base w W) (hb:base≤w.heap.size) (hg:base≤g):Below base w W' :=
  ⟨e.1.trans x.os,e.2.1.trans x.tape,e.2.2.1.trans x.output,qT x.size e.2.2.2.1,fun k hk=>(e.2.2.2.2 k (by have:=x.size; omega) (by omega)).trans (x.block k hk)⟩
theorem QdO {base : Nat} {bs:List Int} {v v':Value} {w W W':World} (hw:Went v v' W W') (hv:OwnV base bs v W) (x:Below base w W) (hb:base≤w.heap.size):Below base w W':=by
  rcases hw with ⟨g',n,c',rfl,_,he⟩ | ⟨_,he⟩
  · exact QeC he x hb (hv.ge rfl)
  · exact bx hb x he
section
variable {ds : List Deferred} {ops : Array Oper} {Q : Exit → Act → World → Prop} {rest : List Oper} {o : Oper} {N : Nat} {L : Env} {W : World}
theorem QcY (s x:Operand) (t:TypeId) (ho:o.op=.call { callee:=.builtin .append,args:=#[s,x],argTypes:=#[t,t] })
    (ht:Tryd.prog.underlying t=some (.slice 5)) (d:Nat) (hd:o.dst=some d) (hg:Qce ops o N L=some true) {base b2 gx cx:Nat} {curx:Array Value} {v:Value} {xs ys:List Int}
    (hs:Rely.look (envN N L) s=v) (hx:Rely.look (envN N L) x=.slice (some ⟨gx,0,none⟩) ys.length cx)
    (h:OwnV base xs v W) (hy:Qd0 b2 gx cx curx ys W) (hn:xs.length+ys.length≤1000000) (h0:0<ys.length) (hbase:base≤W.heap.size)
    (k:∀ (u:Value) (W':World),OwnB base (xs++ys) u W'→Went v u W W'→WL Tryd.prog ops Q rest (Qa4 ds N ((d,u)::L)) W'):WL Tryd.prog ops Q (o::rest) (Qa4 ds N L) W:=by
  obtain ⟨u,W',h1,h2,h3⟩:=QhG (ρ:=Rely.look (envN N L)) (o:=o) (W:=W) s x t ho ht hs hx h hy hn h0 hbase
  exact QbW _ _ d hd hg h1 (k u W' h2 h3)
theorem Qfj (s x:Operand) (t:TypeId) (ho:o.op=.call { callee:=.builtin .append,args:=#[s,x],argTypes:=#[t,t] })
    (ht:Tryd.prog.underlying t=some (.slice 33)) (d:Nat) (hd:o.dst=some d) (hg:Qce ops o N L=some true) {base g c gx m:Nat} {cur:Array Value} {u:Value} {G:List Value} (hm:G.length=m)
    (hs:Rely.look (envN N L) s=.slice (some ⟨g,0,none⟩) m c) (hx:Rely.look (envN N L) x=.slice (some ⟨gx,0,none⟩) 1 1)
    (h:OwnL base g c cur G W) (rx:W.heap[gx]? = some (.cells #[u] 33)) (h1c:u.oneCell'=true) (hn:m≤1000) (hbase:base≤W.heap.size)
    (k:∀ (g' c':Nat) (cur':Array Value) (W':World),OwnL base g' c' cur' (G++[u]) W'→ExtB g W W'→WL Tryd.prog ops Q rest (Qa4 ds N ((d,.slice (some ⟨g',0,none⟩) (m+1) c')::L)) W'):WL Tryd.prog ops Q (o::rest) (Qa4 ds N L) W:=by
  subst hm
  obtain ⟨hb,r,hcs,hle,hmax,htk⟩:=h
  have hi:(Tryd.prog.info? 33).map (fun i=>(i.zero,i.size,i.bytes))=some (some (.slice none 0 0),1,24):=by kernel_rfl
  cases hq:Tryd.prog.info? 33 with
  | none=>rw [hq] at hi; cases hi
  | some i =>
    rw [hq] at hi
    simp only [Option.map_some,Option.some.injEq,Prod.mk.injEq] at hi
    have hown:W.ownsRow base 33 1 (.slice (some ⟨g,0,none⟩) G.length c) G.length G :=
      ⟨by simp,.inr ⟨g,c,cur,rfl,hb,r,hle,hmax,by omega,by rw [Nat.mul_one]; exact htk⟩⟩
    obtain ⟨v',W',hr,h2,h3,_,_⟩:=run_append_own_at (P:=Tryd.prog) W base t o.type 33 i (.slice none 0 0) 1 24 ht hq hi.1 hi.2.1 hi.2.2 rfl (by omega) _ G.length G hown ⟨gx,0,none⟩ 1 1 [u] rfl
      (fun j z hz=>by
        have hadd:(⟨gx,0,none⟩:Addr).add j=⟨gx,j,none⟩:=by unfold Addr.add; split <;> simp_all
        rw [hadd]
        refine QbP rx ?_
        rw [←hz]; simp)
      (fun z hz=>by
        have:z=u:=by simpa using hz
        subst this; exact h1c) (by simp only [maxLen]; omega) (by omega) hbase
    rcases h2.2 with ⟨_,h0⟩ | ⟨g',c',cur',hv,hb',hg',hle',hmax',hsz',htk'⟩
    · omega
    · subst hv
      refine QbW _ _ d hd hg ?_ (k g' c' cur' W' ⟨hb',hg',by omega,by simpa using hle',hmax',by simpa using htk'⟩ (ExtB.of_grown h3))
      unfold execOp
      simp only [ho,resolve,invoke,builtin,Sem.run_bind,Sem.run_pure,Result.andThen_ok,List.map_toArray,List.map_cons,List.map_nil,hs,hx,hr]
      try simp
end
theorem QmX (base gl L:Nat) (V:Nat→Value) (N:Nat→Nat) (rowL:Array Value) (w:World) (hbase:base≤w.heap.size) (hrow:w.heap[gl]? = some (.cells rowL 33)) (hcell:∀ i,i<L→rowL[i]? = some (V i)) (hL:L≤100) (hN:∀ i,i<L→N i≤100000)
  (hB:∀ i,i<L→∃ bs,bs.length=N i∧OwnV base bs (V i) w) (hd:Dist L V):Calls Tryd.prog 20 #[.slice (some ⟨gl,0,none⟩) L L] w fun e w'=>e=.returned (.bool true)∧Below base w w':=by
 refine enter 117 [(0,.slice (some ⟨gl,0,none⟩) L L)] Tryd.func20 rfl rfl (by kernel_rfl) rfl <| sgC fun K1 hK1=>Qab (.bool false) 2 rfl (by kernel_rfl) (by kernel_rfl) <| sgN hK1 <| wp_seq_k fun K2 hK2=>sgC fun K3 hK3=>Qab (.slice (some ⟨gl,0,none⟩) L L) 13 rfl (by kernel_rfl) (by kernel_rfl) <| Qab (.int .i64 ((L:Nat):Int)) 14 rfl (by kernel_rfl) (by kernel_rfl) <| Qab (.int .i64 0) 15 rfl (by kernel_rfl) (by kernel_rfl) <| sgN hK3 ?_
 refine wp_block <| Qa5 (fun (k:Nat)=>[(0,.slice (some ⟨gl,0,none⟩) L L),(13,.slice (some ⟨gl,0,none⟩) L L),(14,.int .i64 ((L:Nat):Int)),(15,.int .i64 ((k:Nat):Int))]) (fun (k:Nat) W=>k≤L∧Fill base L k V N W∧W.heap[gl]? = some (.cells rowL 33)∧Below base w W) (fun (k:Nat)=>L-k) 0 ⟨kj,kj,kj,kj,trivial⟩ ⟨Nat.zero_le _,fun i hi=>(by obtain ⟨bs,h1,h2⟩:=hB i hi; exact ⟨bs,h1,h2,fun h=>absurd h (Nat.not_lt_zero _)⟩),hrow,(Below.refl base w)⟩ fun k X1 V1 hI=>?_
 obtain ⟨hkL,hF,rr,xx1⟩:=hI
 refine sgC fun K4 hK4=>Qab (.bool (decide (((k:Nat):Int)<((L:Nat):Int)))) 16 rfl (by kernel_rfl) (by kernel_rfl) <| sgN hK4 <| wp_seq_k fun K5 hK5=>Qay (t:=decide (((k:Nat):Int)<((L:Nat):Int))) (by kernel_rfl) (fun c6=>?_) (fun c6=>?_)
 ·skip
  have hk:k<L:=by have:=of_decide_eq_true c6; omega
  obtain ⟨bs,hbl,hbo,hbk⟩:=hF k hk
  have hNk:=hN k hk
  have hcl:=hcell k hk
  obtain ⟨v,hv⟩:∃ v,V k=v:=⟨_,rfl⟩
  rw [hv] at hbo hcl
  rcases hbo with ⟨rfl,rfl⟩ | ⟨g,cc,cur,rfl,hO⟩
  ·skip
   have hlc:V1.cell? ⟨gl,0+k,none⟩=some (.slice none 0 0):=by rw [Nat.zero_add]; exact QbP rr hcl
   refine wp_skip <| hK5 _ _ <| wp_seq_k fun K7 hK7=>wp_block <| sgC fun K8 hK8=>Qab (.int .i64 ((k:Nat):Int)) 17 rfl (by kernel_rfl) (by kernel_rfl) <| Qab (.pointer (some ⟨gl,0+k,none⟩)) 18 rfl (by kernel_rfl) (Qbt 47 _ _ .i64 (k) gl 0 L L 33 rfl (by kernel_rfl) (by kernel_rfl) (by kernel_rfl) (by kernel_rfl) hk) <| Qab (.slice none 0 0) 19 rfl (by kernel_rfl) (Qaz 33 _ _ (.slice none 0 0) hlc rfl (by kernel_rfl) (by kernel_rfl)) <| Qab (.int .i64 ((k:Nat):Int)) 3 rfl (by kernel_rfl) (by kernel_rfl) <| Qab (.slice none 0 0) 4 rfl (by kernel_rfl) (by kernel_rfl) ?_
   refine sgN hK8 <| sgC fun K9 hK9=>Qab (.slice none 0 0) 20 rfl (by kernel_rfl) (by kernel_rfl) <| Qab (.int .i64 0) 21 rfl (by kernel_rfl) (by kernel_rfl) <| Qab (.int .i64 0) 22 rfl (by kernel_rfl) (by kernel_rfl) <| sgN hK9 <| wp_block <| wp_loop_rounds 1 ?_
   show Code.wp _ _ (Exit.then (Code.rounds _ _ _ 0) _) _ _
   refine sgC fun K10 hK10=>Qab (.bool false) 23 rfl (by kernel_rfl) (by kernel_rfl) <| sgN hK10 <| wp_seq_k fun K11 hK11=>cond_false (by kernel_rfl) <| wp_exit <| hK7 _ _ <| Qai <| Qab (.int .i64 (((k+1:Nat):Int))) 36 rfl (by kernel_rfl) (Qaf (u:=.int .i64 (IntKind.i64.wrap (((k:Nat):Int)+1))) (by kernel_rfl) (congrArg (Value.int .i64) (i64n _ _ (by omega) (by omega)))) <| Qab (.int .i64 (((k+1:Nat):Int))) 15 rfl (by kernel_rfl) (by kernel_rfl) ?_
   refine Qao ?_
   repeat (first | with_reducible refine goX1 ?_ | with_reducible refine goX2 ?_ | with_reducible refine goX3 ?_)
   exact Qax (k+1) ⟨kj,kj,kj,kj,trivial⟩ ⟨hk,(hF.others.fill (bs:=[]) hbl (.inl ⟨hv,rfl⟩) (by rw [←hbl]; rfl)),rr,xx1⟩ (by show L-(k+1)<L-k; omega)
  ·skip
   obtain ⟨n,hn⟩:∃ n,bs.length=n:=⟨_,rfl⟩
   rw [hn] at hv hcl
   have hlc:V1.cell? ⟨gl,0+k,none⟩=some (.slice (some ⟨g,0,none⟩) n cc):=by rw [Nat.zero_add]; exact QbP rr hcl
   refine wp_skip <| hK5 _ _ <| wp_seq_k fun K13 hK13=>wp_block <| sgC fun K14 hK14=>Qab (.int .i64 ((k:Nat):Int)) 17 rfl (by kernel_rfl) (by kernel_rfl) <| Qab (.pointer (some ⟨gl,0+k,none⟩)) 18 rfl (by kernel_rfl) (Qbt 47 _ _ .i64 (k) gl 0 L L 33 rfl (by kernel_rfl) (by kernel_rfl) (by kernel_rfl) (by kernel_rfl) hk) <| Qab (.slice (some ⟨g,0,none⟩) n cc) 19 rfl (by kernel_rfl) (Qaz 33 _ _ (.slice (some ⟨g,0,none⟩) n cc) hlc rfl (by kernel_rfl) (by kernel_rfl)) <| Qab (.int .i64 ((k:Nat):Int)) 3 rfl (by kernel_rfl) (by kernel_rfl) <| Qab (.slice (some ⟨g,0,none⟩) n cc) 4 rfl (by kernel_rfl) (by kernel_rfl) ?_
   refine sgN hK14 <| sgC fun K15 hK15=>Qab (.slice (some ⟨g,0,none⟩) n cc) 20 rfl (by kernel_rfl) (by kernel_rfl) <| Qab (.int .i64 ((n:Nat):Int)) 21 rfl (by kernel_rfl) (by kernel_rfl) <| Qab (.int .i64 0) 22 rfl (by kernel_rfl) (by kernel_rfl) <| sgN hK15 <| wp_block <| Qa5 (fun (j:Nat)=>[(0,.slice (some ⟨gl,0,none⟩) L L),(13,.slice (some ⟨gl,0,none⟩) L L),(14,.int .i64 ((L:Nat):Int)),(15,.int .i64 ((k:Nat):Int)),(3,.int .i64 ((k:Nat):Int)),(4,.slice (some ⟨g,0,none⟩) n cc),(21,.int .i64 ((n:Nat):Int)),(22,.int .i64 ((j:Nat):Int))]) (fun (j:Nat) W=>j≤n∧(∃ bs cur,bs.length=n∧Qd0 base g cc cur bs W∧bs.take j=patL k j)∧Qf3 base L k V N W∧W.heap[gl]? = some (.cells rowL 33)∧Below base w W) (fun (j:Nat)=>n-j) 0 ⟨kj,kj,kj,kj,kj,kj,kj,kj,trivial⟩ ⟨Nat.zero_le _,⟨bs,cur,hn,hO,rfl⟩,hF.others,rr,xx1⟩ fun j X2 V2 hI2=>?_
   clear hO hF rr xx1
   obtain ⟨hjn,⟨bs2,cur2,hbn,hO,hbt⟩,hoth,r2,xx2⟩:=hI2
   refine sgC fun K16 hK16=>Qab (.bool (decide (((j:Nat):Int)<((n:Nat):Int)))) 23 rfl (by kernel_rfl) (by kernel_rfl) <| sgN hK16 <| wp_seq_k fun K17 hK17=>Qay (t:=decide (((j:Nat):Int)<((n:Nat):Int))) (by kernel_rfl) (fun c18=>?_) (fun c18=>?_)
   ·skip
    have hj2:j<n:=by have:=of_decide_eq_true c18; omega
    refine wp_skip <| hK17 _ _ <| wp_seq_k fun K19 hK19=>wp_block <| sgC fun K20 hK20=>Qab (.int .i64 ((j:Nat):Int)) 24 rfl (by kernel_rfl) (by kernel_rfl) <| Qab (.int .i64 ((j:Nat):Int)) 5 rfl (by kernel_rfl) (by kernel_rfl) <| sgN hK20 <| Qai <| Qab (.slice (some ⟨g,0,none⟩) n cc) 25 rfl (by kernel_rfl) (by kernel_rfl) ?_
    refine Qab (.int .i64 ((j:Nat):Int)) 26 rfl (by kernel_rfl) (by kernel_rfl) <| Qab (.int .i64 ((k:Nat):Int)) 27 rfl (by kernel_rfl) (by kernel_rfl) <| Qab (.int .i64 (((29*k:Nat):Int))) 28 rfl (by kernel_rfl) (Qaf (u:=.int .i64 (IntKind.i64.wrap (29*((k:Nat):Int)))) (by kernel_rfl) (congrArg (Value.int .i64) (i64n _ _ (by omega) (by omega)))) <| Qab (.int .i64 ((j:Nat):Int)) 29 rfl (by kernel_rfl) (by kernel_rfl) <| Qab (.int .i64 (((5*j:Nat):Int))) 30 rfl (by kernel_rfl) (Qaf (u:=.int .i64 (IntKind.i64.wrap (5*((j:Nat):Int)))) (by kernel_rfl) (congrArg (Value.int .i64) (i64n _ _ (by omega) (by omega)))) <| Qab (.int .i64 (((29*k+5*j:Nat):Int))) 31 rfl (by kernel_rfl) (Qaf (u:=.int .i64 (IntKind.i64.wrap (((29*k:Nat):Int)+((5*j:Nat):Int)))) (by kernel_rfl) (congrArg (Value.int .i64) (i64n _ _ (by omega) (by omega)))) <| Qab (.int .i64 (((29*k+5*j+3:Nat):Int))) 32 rfl (by kernel_rfl) (Qaf (u:=.int .i64 (IntKind.i64.wrap (((29*k+5*j:Nat):Int)+3))) (by kernel_rfl) (congrArg (Value.int .i64) (i64n _ _ (by omega) (by omega)))) <| Qab (.int .u8 (pat k j)) 33 rfl (by kernel_rfl) (Qaf (u:=.int .u8 (IntKind.u8.wrap (((29*k+5*j+3:Nat):Int)))) (by kernel_rfl) (congrArg (Value.int .u8) (Qgu _))) <| Qab (.pointer (some ⟨g,j,none⟩)) 34 rfl (by kernel_rfl) (Qaw 33 _ _ .i64 (j) g n cc 5 rfl (by kernel_rfl) (by kernel_rfl) (by kernel_rfl) (by kernel_rfl) hj2) <| Qi6 (.tmp 34) (.tmp 33) g j (pat k j) hO (by omega) rfl (by kernel_rfl) (by kernel_rfl) rfl (by kernel_rfl) fun cur2 W3 hO2 p3=>?_
    have x3:Below base w W3:=QiG p3 xx2 hO.1
    refine Qao <| hK19 _ _ <| Qai <| Qab (.int .i64 (((j+1:Nat):Int))) 35 rfl (by kernel_rfl) (Qaf (u:=.int .i64 (IntKind.i64.wrap (((j:Nat):Int)+1))) (by kernel_rfl) (congrArg (Value.int .i64) (i64n _ _ (by omega) (by omega)))) <| Qab (.int .i64 (((j+1:Nat):Int))) 22 rfl (by kernel_rfl) (by kernel_rfl) <| Qao ?_
    repeat (first | with_reducible refine goX1 ?_ | with_reducible refine goX2 ?_ | with_reducible refine goX3 ?_)
    exact Qax (j+1) ⟨kj,kj,kj,kj,kj,kj,kj,kj,trivial⟩ ⟨hj2,⟨_,_,(by rw [List.length_set]; exact hbn),hO2,Ql0 (by omega) hbt⟩,hoth.puts hd hk hv p3,p3.row r2 (Qfa r2 hO.2.1 (by decide)),x3⟩ (by show n-(j+1)<n-j; omega)
   ·skip
    have hj2:j=n:=by have:=of_decide_eq_false c18; omega
    subst hj2
    refine wp_exit <| hK13 _ _ <| Qai <| Qab (.int .i64 (((k+1:Nat):Int))) 36 rfl (by kernel_rfl) (Qaf (u:=.int .i64 (IntKind.i64.wrap (((k:Nat):Int)+1))) (by kernel_rfl) (congrArg (Value.int .i64) (i64n _ _ (by omega) (by omega)))) <| Qab (.int .i64 (((k+1:Nat):Int))) 15 rfl (by kernel_rfl) (by kernel_rfl) <| Qao ?_
    repeat (first | with_reducible refine goX1 ?_ | with_reducible refine goX2 ?_ | with_reducible refine goX3 ?_)
    exact Qax (k+1) ⟨kj,kj,kj,kj,trivial⟩ ⟨hk,(hoth.fill (bs:=bs2) (hbn.trans (hn.symm.trans hbl)) (by rw [hv]; exact .inr ⟨g,cc,cur2,by rw [hbn],hO⟩) (by rw [←hbl,hn]; exact QkK hbn hbt)),r2,xx2⟩ (by show L-(k+1)<L-k; omega)
 ·skip
  have hk:k=L:=by have:=of_decide_eq_false c6; omega
  have hA:Full base L V N V1:=by rw [hk] at hF; exact hF.full
  clear hF hk
  refine wp_exit <| hK2 _ _ <| sgC fun K21 hK21=>Qa7 (#[]) 33 0 37 rfl (by kernel_rfl) (by kernel_rfl) fun g22 W2 l22 e2 r22_2=>?_
  have x2:Below base w W2:=bx hbase xx1 e2
  refine Qab (.slice (some ⟨g22,0,none⟩) 0 0) 6 rfl (by kernel_rfl) (by kernel_rfl) <| sgN hK21 <| wp_seq_k fun K23 hK23=>sgC fun K24 hK24=>Qab (.slice (some ⟨gl,0,none⟩) L L) 38 rfl (by kernel_rfl) (by kernel_rfl) <| Qab (.int .i64 ((L:Nat):Int)) 39 rfl (by kernel_rfl) (by kernel_rfl) <| Qab (.int .i64 0) 40 rfl (by kernel_rfl) (by kernel_rfl) <| sgN hK24 <| wp_block <| Qa5 (fun (s:Nat×List Value×Nat×Nat×Array Value)=>[(0,.slice (some ⟨gl,0,none⟩) L L),(38,.slice (some ⟨gl,0,none⟩) L L),(39,.int .i64 ((L:Nat):Int)),(40,.int .i64 ((s.1:Nat):Int)),(6,.slice (some ⟨s.2.2.1,0,none⟩) s.1 s.2.2.2.1)]) (fun s W=>s.1≤L∧(s.2.1).length=s.1∧OwnL w.heap.size s.2.2.1 s.2.2.2.1 s.2.2.2.2 s.2.1 W∧Full base L V N W∧QeV base s.1 N s.2.1 W∧Gd L s.1 V s.2.1∧W.heap[gl]? = some (.cells rowL 33)∧Below base w W) (fun s=>L-s.1) (0,[],g22,0,#[]) ⟨kj,kj,kj,kj,kj,trivial⟩ ⟨Nat.zero_le _,rfl,⟨(qT xx1.size l22),r22_2,rfl,qR _,Nat.zero_le _,rfl⟩,(hA.ext e2),fun i hi=>absurd hi (Nat.not_lt_zero _),fun i j hi=>absurd hi (Nat.not_lt_zero _),(Qaa rr e2),x2⟩ fun s X3 V3 hI=>?_
  clear hA rr xx1
  obtain ⟨k,G,gg,cg,curg⟩:=s
  obtain ⟨hkL,hGl,hL3,hA,hG,hgd,rr,xx3⟩:=hI
  replace hkL:k≤L:=hkL
  replace hGl:(G).length=k:=hGl
  replace hL3:OwnL w.heap.size gg cg curg G V3:=hL3
  replace hA:Full base L V N V3:=hA
  replace hG:QeV base k N G V3:=hG
  replace hgd:Gd L k V G:=hgd
  replace rr:V3.heap[gl]? = some (.cells rowL 33):=rr
  replace xx3:Below base w V3:=xx3
  refine sgC fun K25 hK25=>Qab (.bool (decide (((k:Nat):Int)<((L:Nat):Int)))) 41 rfl (by kernel_rfl) (by kernel_rfl) <| sgN hK25 <| wp_seq_k fun K26 hK26=>Qay (t:=decide (((k:Nat):Int)<((L:Nat):Int))) (by kernel_rfl) (fun c27=>?_) (fun c27=>?_)
  ·skip
   have hk:k<L:=by have:=of_decide_eq_true c27; omega
   have hNk:=hN k hk
   have hcl:=hcell k hk
   have hM:=Mid.start hA hG hd hgd hk
   obtain ⟨v,hv⟩:∃ v,V k=v:=⟨_,rfl⟩
   rw [hv] at hM hcl
   rcases id hM.1 with ⟨rfl,he⟩ | ⟨g,cc,cur,hv2,hO⟩
   ·skip
    have hn0:N k=0:=by have:=congrArg List.length he; rwa [Qbx] at this
    have hlc:V3.cell? ⟨gl,0+k,none⟩=some (.slice none 0 0):=by rw [Nat.zero_add]; exact QbP rr hcl
    refine wp_skip <| hK26 _ _ <| wp_seq_k fun K28 hK28=>wp_block <| sgC fun K29 hK29=>Qab (.int .i64 ((k:Nat):Int)) 42 rfl (by kernel_rfl) (by kernel_rfl) <| Qab (.pointer (some ⟨gl,0+k,none⟩)) 43 rfl (by kernel_rfl) (Qbt 47 _ _ .i64 (k) gl 0 L L 33 rfl (by kernel_rfl) (by kernel_rfl) (by kernel_rfl) (by kernel_rfl) hk) <| Qab (.slice none 0 0) 44 rfl (by kernel_rfl) (Qaz 33 _ _ (.slice none 0 0) hlc rfl (by kernel_rfl) (by kernel_rfl)) <| Qab (.int .i64 ((k:Nat):Int)) 7 rfl (by kernel_rfl) (by kernel_rfl) <| Qab (.slice none 0 0) 8 rfl (by kernel_rfl) (by kernel_rfl) ?_
    refine sgN hK29 <| sgC fun K30 hK30=>Qab (.slice none 0 0) 45 rfl (by kernel_rfl) (by kernel_rfl) <| Qab (.int .i64 0) 46 rfl (by kernel_rfl) (by kernel_rfl) <| Qab (.int .i64 0) 9 rfl (by kernel_rfl) (by kernel_rfl) <| sgN hK30 <| wp_seq_k fun K31 hK31=>wp_block <| Qa5 (fun (s:Nat×Value)=>[(0,.slice (some ⟨gl,0,none⟩) L L),(38,.slice (some ⟨gl,0,none⟩) L L),(39,.int .i64 ((L:Nat):Int)),(40,.int .i64 ((k:Nat):Int)),(6,.slice (some ⟨gg,0,none⟩) k cg),(7,.int .i64 ((k:Nat):Int)),(8,s.2),(9,.int .i64 0)]) (fun s W=>N k≤s.1∧s.1≤N k+10∧Mid base L k s.1 V N G s.2 W∧OwnL w.heap.size gg cg curg G W∧W.heap[gl]? = some (.cells rowL 33)∧Below base w W) (fun s=>N k+10-s.1) (N k,.slice none 0 0) ⟨kj,kj,kj,kj,kj,kj,kj,kj,trivial⟩ ⟨qR _,Nat.le_add_right _ _,hM,hL3,rr,xx3⟩ fun s X4 V4 hI2=>?_
    clear hM hL3 hA hG rr xx3 hlc
    obtain ⟨m,u⟩:=s
    obtain ⟨hm1,hm2,hMu,hLu,r3,xx4⟩:=hI2
    replace hm1:N k≤m:=hm1
    replace hm2:m≤N k+10:=hm2
    replace hMu:Mid base L k m V N G u V4:=hMu
    replace hLu:OwnL w.heap.size gg cg curg G V4:=hLu
    replace r3:V4.heap[gl]? = some (.cells rowL 33):=r3
    replace xx4:Below base w V4:=xx4
    rcases id hMu.1 with ⟨rfl,he3⟩ | ⟨g3,c3,cur3,hu3,hO3⟩
    ·skip
     obtain rfl:m=0:=by have:=congrArg List.length he3; rwa [Qbx] at this
     have hm3:0<N k+10:=by omega
     refine wp_seq_k fun K32 hK32=>sgC fun K33 hK33=>Qab (.slice none 0 0) 47 rfl (by kernel_rfl) (by kernel_rfl) <| Qab (.int .i64 0) 48 rfl (by kernel_rfl) (by kernel_rfl) <| Qab (.int .i64 0) 49 rfl (by kernel_rfl) (by kernel_rfl) <| Qab (.int .i64 10) 50 rfl (by kernel_rfl) (by kernel_rfl) <| Qab (.bool true) 51 rfl (by kernel_rfl) (by kernel_rfl) <| sgN hK33 <| cond_true (by kernel_rfl) <| wp_skip ?_
     refine hK32 _ _ <| wp_block <| Qai <| Qab (.slice none 0 0) 52 rfl (by kernel_rfl) (by kernel_rfl) <| Qab (.int .i64 ((k:Nat):Int)) 53 rfl (by kernel_rfl) (by kernel_rfl) <| Qab (.int .i64 (((29*k:Nat):Int))) 54 rfl (by kernel_rfl) (Qaf (u:=.int .i64 (IntKind.i64.wrap (29*((k:Nat):Int)))) (by kernel_rfl) (congrArg (Value.int .i64) (i64n _ _ (by omega) (by omega)))) <| Qab (.slice none 0 0) 55 rfl (by kernel_rfl) (by kernel_rfl) <| Qab (.int .i64 0) 56 rfl (by kernel_rfl) (by kernel_rfl) <| Qab (.int .i64 0) 57 rfl (by kernel_rfl) (by kernel_rfl) <| Qab (.int .i64 (((29*k+5*0:Nat):Int))) 58 rfl (by kernel_rfl) (Qaf (u:=.int .i64 (IntKind.i64.wrap (((29*k:Nat):Int)+0))) (by kernel_rfl) (congrArg (Value.int .i64) (i64n _ _ (by omega) (by omega)))) ?_
     refine Qab (.int .i64 (((29*k+5*0+3:Nat):Int))) 59 rfl (by kernel_rfl) (Qaf (u:=.int .i64 (IntKind.i64.wrap (((29*k+5*0:Nat):Int)+3))) (by kernel_rfl) (congrArg (Value.int .i64) (i64n _ _ (by omega) (by omega)))) <| Qab (.int .u8 (pat k 0)) 60 rfl (by kernel_rfl) (Qaf (u:=.int .u8 (IntKind.u8.wrap (((29*k+5*0+3:Nat):Int)))) (by kernel_rfl) (congrArg (Value.int .u8) (Qgu _))) <| Qa7 (ints .u8 ([(pat k 0)])) 5 1 61 rfl (by kernel_rfl) (by kernel_rfl) fun g34 W5 l34 e5 r34_5=>?_
     have x5:Below base w W5:=bx hbase xx4 e5
     refine QcY (.tmp 52) (.tmp 61) 33 rfl (by kernel_rfl) 62 rfl (by kernel_rfl) (by kernel_rfl) (by kernel_rfl) (OwnV.ext hMu.1 e5) (QdU [(pat k 0)] (qT xx4.size l34) r34_5 (show 1≤maxLen by decide)) (by rw [Qbx]; show 0+1≤1000000; omega) (show 0<1 by decide) (qT hbase x5.size) fun u2 W6 hO2 hw=>?_
     have hM2:=(hMu.ext e5).append hk hm1 hw hO2
     have hL2:=(hLu.ext e5).went (OwnV.ext hMu.1 e5) hw
     have r4:=QeX (Qaa r3 e5) (OwnV.ext hMu.1 e5) hw
     have x6:Below base w W6:=QdO hw (OwnV.ext hMu.1 e5) x5 hbase
     refine Qab (u2) 8 rfl (by kernel_rfl) (by kernel_rfl) <| Qao ?_
     repeat (first | with_reducible refine goX1 ?_ | with_reducible refine goX2 ?_ | with_reducible refine goX3 ?_)
     exact Qax (0+1,u2) ⟨kj,kj,kj,kj,kj,kj,kj,kj,trivial⟩ ⟨(by show N k≤0+1; omega),(by show 0+1≤N k+10; omega),hM2,hL2,r4,x6⟩ (by show N k+10-(0+1)<N k+10-0; omega)
    ·skip
     rw [Qbx] at hu3
     subst hu3
     refine wp_seq_k fun K35 hK35=>sgC fun K36 hK36=>Qab (.slice (some ⟨g3,0,none⟩) m c3) 47 rfl (by kernel_rfl) (by kernel_rfl) <| Qab (.int .i64 ((m:Nat):Int)) 48 rfl (by kernel_rfl) (by kernel_rfl) <| Qab (.int .i64 0) 49 rfl (by kernel_rfl) (by kernel_rfl) <| Qab (.int .i64 10) 50 rfl (by kernel_rfl) (by kernel_rfl) <| Qab (.bool (decide (((m:Nat):Int)<10))) 51 rfl (by kernel_rfl) (by kernel_rfl) <| sgN hK36 <| Qay (t:=decide (((m:Nat):Int)<10)) (by kernel_rfl) (fun c37=>?_) (fun c37=>?_)
     ·skip
      have hm3:m<N k+10:=by have:=of_decide_eq_true c37; omega
      refine wp_skip <| hK35 _ _ <| wp_block <| Qai <| Qab (.slice (some ⟨g3,0,none⟩) m c3) 52 rfl (by kernel_rfl) (by kernel_rfl) <| Qab (.int .i64 ((k:Nat):Int)) 53 rfl (by kernel_rfl) (by kernel_rfl) <| Qab (.int .i64 (((29*k:Nat):Int))) 54 rfl (by kernel_rfl) (Qaf (u:=.int .i64 (IntKind.i64.wrap (29*((k:Nat):Int)))) (by kernel_rfl) (congrArg (Value.int .i64) (i64n _ _ (by omega) (by omega)))) <| Qab (.slice (some ⟨g3,0,none⟩) m c3) 55 rfl (by kernel_rfl) (by kernel_rfl) <| Qab (.int .i64 ((m:Nat):Int)) 56 rfl (by kernel_rfl) (by kernel_rfl) <| Qab (.int .i64 (((5*m:Nat):Int))) 57 rfl (by kernel_rfl) (Qaf (u:=.int .i64 (IntKind.i64.wrap (5*((m:Nat):Int)))) (by kernel_rfl) (congrArg (Value.int .i64) (i64n _ _ (by omega) (by omega)))) ?_
      refine Qab (.int .i64 (((29*k+5*m:Nat):Int))) 58 rfl (by kernel_rfl) (Qaf (u:=.int .i64 (IntKind.i64.wrap (((29*k:Nat):Int)+((5*m:Nat):Int)))) (by kernel_rfl) (congrArg (Value.int .i64) (i64n _ _ (by omega) (by omega)))) <| Qab (.int .i64 (((29*k+5*m+3:Nat):Int))) 59 rfl (by kernel_rfl) (Qaf (u:=.int .i64 (IntKind.i64.wrap (((29*k+5*m:Nat):Int)+3))) (by kernel_rfl) (congrArg (Value.int .i64) (i64n _ _ (by omega) (by omega)))) <| Qab (.int .u8 (pat k m)) 60 rfl (by kernel_rfl) (Qaf (u:=.int .u8 (IntKind.u8.wrap (((29*k+5*m+3:Nat):Int)))) (by kernel_rfl) (congrArg (Value.int .u8) (Qgu _))) <| Qa7 (ints .u8 ([(pat k m)])) 5 1 61 rfl (by kernel_rfl) (by kernel_rfl) fun g38 W5 l38 e5 r38_5=>?_
      have x5:Below base w W5:=bx hbase xx4 e5
      refine QcY (.tmp 52) (.tmp 61) 33 rfl (by kernel_rfl) 62 rfl (by kernel_rfl) (by kernel_rfl) (by kernel_rfl) (OwnV.ext hMu.1 e5) (QdU [(pat k m)] (qT xx4.size l38) r38_5 (show 1≤maxLen by decide)) (by rw [Qbx]; show m+1≤1000000; omega) (show 0<1 by decide) (qT hbase x5.size) fun u2 W6 hO2 hw=>?_
      have hM2:=(hMu.ext e5).append hk hm1 hw hO2
      have hL2:=(hLu.ext e5).went (OwnV.ext hMu.1 e5) hw
      have r4:=QeX (Qaa r3 e5) (OwnV.ext hMu.1 e5) hw
      have x6:Below base w W6:=QdO hw (OwnV.ext hMu.1 e5) x5 hbase
      refine Qab (u2) 8 rfl (by kernel_rfl) (by kernel_rfl) <| Qao ?_
      repeat (first | with_reducible refine goX1 ?_ | with_reducible refine goX2 ?_ | with_reducible refine goX3 ?_)
      exact Qax (m+1,u2) ⟨kj,kj,kj,kj,kj,kj,kj,kj,trivial⟩ ⟨(by show N k≤m+1; omega),(by show m+1≤N k+10; omega),hM2,hL2,r4,x6⟩ (by show N k+10-(m+1)<N k+10-m; omega)
     ·skip
      have hm3:m=N k+10:=by have:=of_decide_eq_false c37; omega
      refine wp_exit <| hK31 _ _ <| Qai <| Qab (.slice (some ⟨gg,0,none⟩) k cg) 63 rfl (by kernel_rfl) (by kernel_rfl) <| Qab (.slice (some ⟨g3,0,none⟩) m c3) 64 rfl (by kernel_rfl) (by kernel_rfl) <| Qa7 (#[.slice (some ⟨g3,0,none⟩) m c3]) 33 1 65 rfl (by kernel_rfl) (by kernel_rfl) fun g39 W5 l39 e5 r39_5=>?_
      have x5:Below base w W5:=bx hbase xx4 e5
      have b39:=qT xx4.size l39
      refine Qfj (.tmp 63) (.tmp 65) 47 rfl (by kernel_rfl) 66 rfl (by kernel_rfl) hGl (by kernel_rfl) (by kernel_rfl) (hLu.ext e5) r39_5 rfl (by omega) x5.size fun gg2 cg2 curg2 W6 hL4 hE=>?_
      have hD:=(hMu.ext e5).done' hm3 hk hGl hgd (hLu.ext e5).2.1 hE
      have x6:Below base w W6:=QeC hE x5 hbase (qT hbase hLu.1)
      have r5:=hE.row (Qaa r3 e5) (by have:=Qau hrow; have:=hLu.1; omega)
      refine Qab (.slice (some ⟨gg2,0,none⟩) (k+1) cg2) 6 rfl (by kernel_rfl) (by kernel_rfl) <| Qao <| hK28 _ _ <| Qai <| Qab (.int .i64 (((k+1:Nat):Int))) 67 rfl (by kernel_rfl) (Qaf (u:=.int .i64 (IntKind.i64.wrap (((k:Nat):Int)+1))) (by kernel_rfl) (congrArg (Value.int .i64) (i64n _ _ (by omega) (by omega)))) <| Qab (.int .i64 (((k+1:Nat):Int))) 40 rfl (by kernel_rfl) (by kernel_rfl) <| Qao ?_
      repeat (first | with_reducible refine goX1 ?_ | with_reducible refine goX2 ?_ | with_reducible refine goX3 ?_)
      exact Qax (k+1,G++[.slice (some ⟨g3,0,none⟩) m c3],gg2,cg2,curg2) ⟨kj,kj,kj,kj,kj,trivial⟩ ⟨hk,(by show (G++[_]).length=k+1; simp; omega),hL4,hD.1,hD.2.1,hD.2.2,r5,x6⟩ (by show L-(k+1)<L-k; omega)
   ·skip
    rw [Qbx] at hv2
    subst hv2
    have hlc:V3.cell? ⟨gl,0+k,none⟩=some (.slice (some ⟨g,0,none⟩) (N k) cc):=by rw [Nat.zero_add]; exact QbP rr hcl
    refine wp_skip <| hK26 _ _ <| wp_seq_k fun K40 hK40=>wp_block <| sgC fun K41 hK41=>Qab (.int .i64 ((k:Nat):Int)) 42 rfl (by kernel_rfl) (by kernel_rfl) <| Qab (.pointer (some ⟨gl,0+k,none⟩)) 43 rfl (by kernel_rfl) (Qbt 47 _ _ .i64 (k) gl 0 L L 33 rfl (by kernel_rfl) (by kernel_rfl) (by kernel_rfl) (by kernel_rfl) hk) <| Qab (.slice (some ⟨g,0,none⟩) (N k) cc) 44 rfl (by kernel_rfl) (Qaz 33 _ _ (.slice (some ⟨g,0,none⟩) (N k) cc) hlc rfl (by kernel_rfl) (by kernel_rfl)) <| Qab (.int .i64 ((k:Nat):Int)) 7 rfl (by kernel_rfl) (by kernel_rfl) <| Qab (.slice (some ⟨g,0,none⟩) (N k) cc) 8 rfl (by kernel_rfl) (by kernel_rfl) ?_
    refine sgN hK41 <| sgC fun K42 hK42=>Qab (.slice (some ⟨g,0,none⟩) (N k) cc) 45 rfl (by kernel_rfl) (by kernel_rfl) <| Qab (.int .i64 (((N k):Nat):Int)) 46 rfl (by kernel_rfl) (by kernel_rfl) <| Qab (.int .i64 (((N k):Nat):Int)) 9 rfl (by kernel_rfl) (by kernel_rfl) <| sgN hK42 <| wp_seq_k fun K43 hK43=>wp_block <| Qa5 (fun (s:Nat×Value)=>[(0,.slice (some ⟨gl,0,none⟩) L L),(38,.slice (some ⟨gl,0,none⟩) L L),(39,.int .i64 ((L:Nat):Int)),(40,.int .i64 ((k:Nat):Int)),(6,.slice (some ⟨gg,0,none⟩) k cg),(7,.int .i64 ((k:Nat):Int)),(8,s.2),(9,.int .i64 (((N k):Nat):Int))]) (fun s W=>N k≤s.1∧s.1≤N k+10∧Mid base L k s.1 V N G s.2 W∧OwnL w.heap.size gg cg curg G W∧W.heap[gl]? = some (.cells rowL 33)∧Below base w W) (fun s=>N k+10-s.1) (N k,.slice (some ⟨g,0,none⟩) (N k) cc) ⟨kj,kj,kj,kj,kj,kj,kj,kj,trivial⟩ ⟨qR _,Nat.le_add_right _ _,hM,hL3,rr,xx3⟩ fun s X4 V4 hI2=>?_
    clear hM hL3 hA hG rr xx3 hlc
    obtain ⟨m,u⟩:=s
    obtain ⟨hm1,hm2,hMu,hLu,r3,xx4⟩:=hI2
    replace hm1:N k≤m:=hm1
    replace hm2:m≤N k+10:=hm2
    replace hMu:Mid base L k m V N G u V4:=hMu
    replace hLu:OwnL w.heap.size gg cg curg G V4:=hLu
    replace r3:V4.heap[gl]? = some (.cells rowL 33):=r3
    replace xx4:Below base w V4:=xx4
    rcases id hMu.1 with ⟨rfl,he3⟩ | ⟨g3,c3,cur3,hu3,hO3⟩
    ·skip
     obtain rfl:m=0:=by have:=congrArg List.length he3; rwa [Qbx] at this
     have hm3:0<N k+10:=by omega
     refine wp_seq_k fun K44 hK44=>sgC fun K45 hK45=>Qab (.slice none 0 0) 47 rfl (by kernel_rfl) (by kernel_rfl) <| Qab (.int .i64 0) 48 rfl (by kernel_rfl) (by kernel_rfl) <| Qab (.int .i64 (((N k):Nat):Int)) 49 rfl (by kernel_rfl) (by kernel_rfl) <| Qab (.int .i64 (((N k+10:Nat):Int))) 50 rfl (by kernel_rfl) (Qaf (u:=.int .i64 (IntKind.i64.wrap ((((N k):Nat):Int)+10))) (by kernel_rfl) (congrArg (Value.int .i64) (i64n _ _ (by omega) (by omega)))) <| Qab (.bool true) 51 rfl (by kernel_rfl) (Qaf (u:=.bool (decide (0<((N k+10:Nat):Int)))) (by kernel_rfl) (congrArg Value.bool (decide_eq_true (by omega)))) <| sgN hK45 <| cond_true (by kernel_rfl) <| wp_skip ?_
     refine hK44 _ _ <| wp_block <| Qai <| Qab (.slice none 0 0) 52 rfl (by kernel_rfl) (by kernel_rfl) <| Qab (.int .i64 ((k:Nat):Int)) 53 rfl (by kernel_rfl) (by kernel_rfl) <| Qab (.int .i64 (((29*k:Nat):Int))) 54 rfl (by kernel_rfl) (Qaf (u:=.int .i64 (IntKind.i64.wrap (29*((k:Nat):Int)))) (by kernel_rfl) (congrArg (Value.int .i64) (i64n _ _ (by omega) (by omega)))) <| Qab (.slice none 0 0) 55 rfl (by kernel_rfl) (by kernel_rfl) <| Qab (.int .i64 0) 56 rfl (by kernel_rfl) (by kernel_rfl) <| Qab (.int .i64 0) 57 rfl (by kernel_rfl) (by kernel_rfl) <| Qab (.int .i64 (((29*k+5*0:Nat):Int))) 58 rfl (by kernel_rfl) (Qaf (u:=.int .i64 (IntKind.i64.wrap (((29*k:Nat):Int)+0))) (by kernel_rfl) (congrArg (Value.int .i64) (i64n _ _ (by omega) (by omega)))) ?_
     refine Qab (.int .i64 (((29*k+5*0+3:Nat):Int))) 59 rfl (by kernel_rfl) (Qaf (u:=.int .i64 (IntKind.i64.wrap (((29*k+5*0:Nat):Int)+3))) (by kernel_rfl) (congrArg (Value.int .i64) (i64n _ _ (by omega) (by omega)))) <| Qab (.int .u8 (pat k 0)) 60 rfl (by kernel_rfl) (Qaf (u:=.int .u8 (IntKind.u8.wrap (((29*k+5*0+3:Nat):Int)))) (by kernel_rfl) (congrArg (Value.int .u8) (Qgu _))) <| Qa7 (ints .u8 ([(pat k 0)])) 5 1 61 rfl (by kernel_rfl) (by kernel_rfl) fun g46 W5 l46 e5 r46_5=>?_
     have x5:Below base w W5:=bx hbase xx4 e5
     refine QcY (.tmp 52) (.tmp 61) 33 rfl (by kernel_rfl) 62 rfl (by kernel_rfl) (by kernel_rfl) (by kernel_rfl) (OwnV.ext hMu.1 e5) (QdU [(pat k 0)] (qT xx4.size l46) r46_5 (show 1≤maxLen by decide)) (by rw [Qbx]; show 0+1≤1000000; omega) (show 0<1 by decide) (qT hbase x5.size) fun u2 W6 hO2 hw=>?_
     have hM2:=(hMu.ext e5).append hk hm1 hw hO2
     have hL2:=(hLu.ext e5).went (OwnV.ext hMu.1 e5) hw
     have r4:=QeX (Qaa r3 e5) (OwnV.ext hMu.1 e5) hw
     have x6:Below base w W6:=QdO hw (OwnV.ext hMu.1 e5) x5 hbase
     refine Qab (u2) 8 rfl (by kernel_rfl) (by kernel_rfl) <| Qao ?_
     repeat (first | with_reducible refine goX1 ?_ | with_reducible refine goX2 ?_ | with_reducible refine goX3 ?_)
     exact Qax (0+1,u2) ⟨kj,kj,kj,kj,kj,kj,kj,kj,trivial⟩ ⟨(by show N k≤0+1; omega),(by show 0+1≤N k+10; omega),hM2,hL2,r4,x6⟩ (by show N k+10-(0+1)<N k+10-0; omega)
    ·skip
     rw [Qbx] at hu3
     subst hu3
     refine wp_seq_k fun K47 hK47=>sgC fun K48 hK48=>Qab (.slice (some ⟨g3,0,none⟩) m c3) 47 rfl (by kernel_rfl) (by kernel_rfl) <| Qab (.int .i64 ((m:Nat):Int)) 48 rfl (by kernel_rfl) (by kernel_rfl) <| Qab (.int .i64 (((N k):Nat):Int)) 49 rfl (by kernel_rfl) (by kernel_rfl) <| Qab (.int .i64 (((N k+10:Nat):Int))) 50 rfl (by kernel_rfl) (Qaf (u:=.int .i64 (IntKind.i64.wrap ((((N k):Nat):Int)+10))) (by kernel_rfl) (congrArg (Value.int .i64) (i64n _ _ (by omega) (by omega)))) <| Qab (.bool (decide (((m:Nat):Int)<((N k+10:Nat):Int)))) 51 rfl (by kernel_rfl) (by kernel_rfl) <| sgN hK48 <| Qay (t:=decide (((m:Nat):Int)<((N k+10:Nat):Int))) (by kernel_rfl) (fun c49=>?_) (fun c49=>?_)
     ·skip
      have hm3:m<N k+10:=by have:=of_decide_eq_true c49; omega
      refine wp_skip <| hK47 _ _ <| wp_block <| Qai <| Qab (.slice (some ⟨g3,0,none⟩) m c3) 52 rfl (by kernel_rfl) (by kernel_rfl) <| Qab (.int .i64 ((k:Nat):Int)) 53 rfl (by kernel_rfl) (by kernel_rfl) <| Qab (.int .i64 (((29*k:Nat):Int))) 54 rfl (by kernel_rfl) (Qaf (u:=.int .i64 (IntKind.i64.wrap (29*((k:Nat):Int)))) (by kernel_rfl) (congrArg (Value.int .i64) (i64n _ _ (by omega) (by omega)))) <| Qab (.slice (some ⟨g3,0,none⟩) m c3) 55 rfl (by kernel_rfl) (by kernel_rfl) <| Qab (.int .i64 ((m:Nat):Int)) 56 rfl (by kernel_rfl) (by kernel_rfl) <| Qab (.int .i64 (((5*m:Nat):Int))) 57 rfl (by kernel_rfl) (Qaf (u:=.int .i64 (IntKind.i64.wrap (5*((m:Nat):Int)))) (by kernel_rfl) (congrArg (Value.int .i64) (i64n _ _ (by omega) (by omega)))) ?_
      refine Qab (.int .i64 (((29*k+5*m:Nat):Int))) 58 rfl (by kernel_rfl) (Qaf (u:=.int .i64 (IntKind.i64.wrap (((29*k:Nat):Int)+((5*m:Nat):Int)))) (by kernel_rfl) (congrArg (Value.int .i64) (i64n _ _ (by omega) (by omega)))) <| Qab (.int .i64 (((29*k+5*m+3:Nat):Int))) 59 rfl (by kernel_rfl) (Qaf (u:=.int .i64 (IntKind.i64.wrap (((29*k+5*m:Nat):Int)+3))) (by kernel_rfl) (congrArg (Value.int .i64) (i64n _ _ (by omega) (by omega)))) <| Qab (.int .u8 (pat k m)) 60 rfl (by kernel_rfl) (Qaf (u:=.int .u8 (IntKind.u8.wrap (((29*k+5*m+3:Nat):Int)))) (by kernel_rfl) (congrArg (Value.int .u8) (Qgu _))) <| Qa7 (ints .u8 ([(pat k m)])) 5 1 61 rfl (by kernel_rfl) (by kernel_rfl) fun g50 W5 l50 e5 r50_5=>?_
      have x5:Below base w W5:=bx hbase xx4 e5
      refine QcY (.tmp 52) (.tmp 61) 33 rfl (by kernel_rfl) 62 rfl (by kernel_rfl) (by kernel_rfl) (by kernel_rfl) (OwnV.ext hMu.1 e5) (QdU [(pat k m)] (qT xx4.size l50) r50_5 (show 1≤maxLen by decide)) (by rw [Qbx]; show m+1≤1000000; omega) (show 0<1 by decide) (qT hbase x5.size) fun u2 W6 hO2 hw=>?_
      have hM2:=(hMu.ext e5).append hk hm1 hw hO2
      have hL2:=(hLu.ext e5).went (OwnV.ext hMu.1 e5) hw
      have r4:=QeX (Qaa r3 e5) (OwnV.ext hMu.1 e5) hw
      have x6:Below base w W6:=QdO hw (OwnV.ext hMu.1 e5) x5 hbase
      refine Qab (u2) 8 rfl (by kernel_rfl) (by kernel_rfl) <| Qao ?_
      repeat (first | with_reducible refine goX1 ?_ | with_reducible refine goX2 ?_ | with_reducible refine goX3 ?_)
      exact Qax (m+1,u2) ⟨kj,kj,kj,kj,kj,kj,kj,kj,trivial⟩ ⟨(by show N k≤m+1; omega),(by show m+1≤N k+10; omega),hM2,hL2,r4,x6⟩ (by show N k+10-(m+1)<N k+10-m; omega)
     ·skip
      have hm3:m=N k+10:=by have:=of_decide_eq_false c49; omega
      refine wp_exit <| hK43 _ _ <| Qai <| Qab (.slice (some ⟨gg,0,none⟩) k cg) 63 rfl (by kernel_rfl) (by kernel_rfl) <| Qab (.slice (some ⟨g3,0,none⟩) m c3) 64 rfl (by kernel_rfl) (by kernel_rfl) <| Qa7 (#[.slice (some ⟨g3,0,none⟩) m c3]) 33 1 65 rfl (by kernel_rfl) (by kernel_rfl) fun g51 W5 l51 e5 r51_5=>?_
      have x5:Below base w W5:=bx hbase xx4 e5
      have b51:=qT xx4.size l51
      refine Qfj (.tmp 63) (.tmp 65) 47 rfl (by kernel_rfl) 66 rfl (by kernel_rfl) hGl (by kernel_rfl) (by kernel_rfl) (hLu.ext e5) r51_5 rfl (by omega) x5.size fun gg2 cg2 curg2 W6 hL4 hE=>?_
      have hD:=(hMu.ext e5).done' hm3 hk hGl hgd (hLu.ext e5).2.1 hE
      have x6:Below base w W6:=QeC hE x5 hbase (qT hbase hLu.1)
      have r5:=hE.row (Qaa r3 e5) (by have:=Qau hrow; have:=hLu.1; omega)
      refine Qab (.slice (some ⟨gg2,0,none⟩) (k+1) cg2) 6 rfl (by kernel_rfl) (by kernel_rfl) <| Qao <| hK40 _ _ <| Qai <| Qab (.int .i64 (((k+1:Nat):Int))) 67 rfl (by kernel_rfl) (Qaf (u:=.int .i64 (IntKind.i64.wrap (((k:Nat):Int)+1))) (by kernel_rfl) (congrArg (Value.int .i64) (i64n _ _ (by omega) (by omega)))) <| Qab (.int .i64 (((k+1:Nat):Int))) 40 rfl (by kernel_rfl) (by kernel_rfl) <| Qao ?_
      repeat (first | with_reducible refine goX1 ?_ | with_reducible refine goX2 ?_ | with_reducible refine goX3 ?_)
      exact Qax (k+1,G++[.slice (some ⟨g3,0,none⟩) m c3],gg2,cg2,curg2) ⟨kj,kj,kj,kj,kj,trivial⟩ ⟨hk,(by show (G++[_]).length=k+1; simp; omega),hL4,hD.1,hD.2.1,hD.2.2,r5,x6⟩ (by show L-(k+1)<L-k; omega)
  ·skip
   have hk:k=L:=by have:=of_decide_eq_false c27; omega
   refine wp_exit <| hK23 _ _ <| wp_seq_k fun K52 hK52=>wp_seq_k fun K53 hK53=>?_
   rw [hk] at hG
   rw [←hk] at hG
   refine Qai <| Qab (.slice (some ⟨gg,0,none⟩) k cg) 68 rfl (by kernel_rfl) (by kernel_rfl) <| Qab (.int .i64 ((k:Nat):Int)) 69 rfl (by kernel_rfl) (by kernel_rfl) <| Qab (.int .i64 0) 70 rfl (by kernel_rfl) (by kernel_rfl) <| sgN hK53 <| wp_block <| Qa5 (fun (i:Nat)=>[(0,.slice (some ⟨gl,0,none⟩) L L),(68,.slice (some ⟨gg,0,none⟩) k cg),(69,.int .i64 ((k:Nat):Int)),(70,.int .i64 ((i:Nat):Int))]) (fun (i:Nat) W=>i≤k∧Full base L V N W∧QeV base k N G W∧OwnL w.heap.size gg cg curg G W∧W.heap[gl]? = some (.cells rowL 33)∧Below base w W) (fun (i:Nat)=>k-i) 0 ⟨kj,kj,kj,kj,trivial⟩ ⟨Nat.zero_le _,hA,hG,hL3,rr,xx3⟩ fun i X5 V5 hI=>?_
   clear hA hG hL3 rr xx3
   obtain ⟨hik,hA,hG,hL3,rr,xx5⟩:=hI
   refine sgC fun K54 hK54=>Qab (.bool (decide (((i:Nat):Int)<((k:Nat):Int)))) 71 rfl (by kernel_rfl) (by kernel_rfl) <| sgN hK54 <| wp_seq_k fun K55 hK55=>Qay (t:=decide (((i:Nat):Int)<((k:Nat):Int))) (by kernel_rfl) (fun c56=>?_) (fun c56=>?_)
   ·skip
    have hi:i<k:=by have:=of_decide_eq_true c56; omega
    have hiL:i<L:=by omega
    have hNi:=hN i hiL
    obtain ⟨gi,ci,ui,hgi,hOi⟩:=hG i hi
    rw [Qbx] at hgi
    have hcG1:V5.cell? ⟨gg,0+i,none⟩=some (.slice (some ⟨gi,0,none⟩) (N i+10) ci):=by rw [Nat.zero_add,←hgi]; exact hL3.cell (by omega)
    refine wp_skip <| hK55 _ _ <| wp_seq_k fun K58 hK58=>wp_block <| sgC fun K59 hK59=>Qab (.int .i64 ((i:Nat):Int)) 72 rfl (by kernel_rfl) (by kernel_rfl) <| Qab (.pointer (some ⟨gg,0+i,none⟩)) 73 rfl (by kernel_rfl) (Qbt 47 _ _ .i64 (i) gg 0 k cg 33 rfl (by kernel_rfl) (by kernel_rfl) (by kernel_rfl) (by kernel_rfl) hi) <| Qab (.slice (some ⟨gi,0,none⟩) (N i+10) ci) 74 rfl (by kernel_rfl) (Qaz 33 _ _ (.slice (some ⟨gi,0,none⟩) (N i+10) ci) hcG1 rfl (by kernel_rfl) (by kernel_rfl)) <| Qab (.int .i64 ((i:Nat):Int)) 10 rfl (by kernel_rfl) (by kernel_rfl) <| Qab (.slice (some ⟨gi,0,none⟩) (N i+10) ci) 11 rfl (by kernel_rfl) (by kernel_rfl) ?_
    refine sgN hK59 <| sgC fun K61 hK61=>Qab (.slice (some ⟨gi,0,none⟩) (N i+10) ci) 75 rfl (by kernel_rfl) (by kernel_rfl) <| Qab (.int .i64 (((N i+10):Nat):Int)) 76 rfl (by kernel_rfl) (by kernel_rfl) <| Qab (.int .i64 0) 77 rfl (by kernel_rfl) (by kernel_rfl) <| sgN hK61 <| wp_block <| Qa5 (fun (j:Nat)=>[(0,.slice (some ⟨gl,0,none⟩) L L),(68,.slice (some ⟨gg,0,none⟩) k cg),(69,.int .i64 ((k:Nat):Int)),(70,.int .i64 ((i:Nat):Int)),(10,.int .i64 ((i:Nat):Int)),(11,.slice (some ⟨gi,0,none⟩) (N i+10) ci),(76,.int .i64 ((N i+10:Nat):Int)),(77,.int .i64 ((j:Nat):Int))]) (fun (j:Nat) W=>j≤N i+10∧Full base L V N W∧QeV base k N G W∧OwnL w.heap.size gg cg curg G W∧W.heap[gl]? = some (.cells rowL 33)∧Below base w W) (fun (j:Nat)=>N i+10-j) 0 ⟨kj,kj,kj,kj,kj,kj,kj,kj,trivial⟩ ⟨Nat.zero_le _,hA,hG,hL3,rr,xx5⟩ fun j X6 V6 hI2=>?_
    clear hA hG hL3 rr xx5 hcG1 hOi
    obtain ⟨hjn,hA1,hG1,hL5,r1,xx6⟩:=hI2
    refine sgC fun K62 hK62=>Qab (.bool (decide (((j:Nat):Int)<((N i+10:Nat):Int)))) 78 rfl (by kernel_rfl) (by kernel_rfl) <| sgN hK62 <| wp_seq_k fun K63 hK63=>Qay (t:=decide (((j:Nat):Int)<((N i+10:Nat):Int))) (by kernel_rfl) (fun c64=>?_) (fun c64=>?_)
    ·skip
     have hj:j<N i+10:=by have:=of_decide_eq_true c64; omega
     obtain ⟨gi',ci',ui2,hgi2,hOi2⟩:=hG1 i hi
     rw [Qbx,hgi] at hgi2
     simp only [Value.slice.injEq,Option.some.injEq,Addr.mk.injEq] at hgi2
     obtain ⟨⟨rfl,_⟩,_,rfl⟩:=hgi2
     have hcg:V6.cell? ⟨gi,j,none⟩=some (.int .u8 (pat i j)):=by rw [hOi2.cell j (by rw [Qbx]; omega),QhY _ _ _ (by omega)]
     have hcl:=hcell i hiL
     have hAi:=hA1 i hiL
     obtain ⟨v,hv⟩:∃ v,V i=v:=⟨_,rfl⟩
     rw [hv] at hAi hcl
     rcases hAi with ⟨rfl,he⟩ | ⟨gv_,cv,uv,hv2,hOv⟩
     ·skip
      have hn0:N i=0:=by have:=congrArg List.length he; rwa [Qbx] at this
      have hcL:V6.cell? ⟨gl,0+i,none⟩=some (.slice none 0 0):=by rw [Nat.zero_add]; exact QbP r1 hcl
      refine wp_skip <| hK63 _ _ <| wp_seq_k fun K65 hK65=>wp_block <| sgC fun K66 hK66=>Qab (.int .i64 ((j:Nat):Int)) 79 rfl (by kernel_rfl) (by kernel_rfl) <| Qab (.int .i64 ((j:Nat):Int)) 12 rfl (by kernel_rfl) (by kernel_rfl) <| sgN hK66 <| wp_seq_k fun K67 hK67=>QaX 35 [⟨none,[(11,none)]⟩,⟨none,[(12,none)]⟩,⟨none,[(80,some 0),(81,some 1)]⟩,⟨none,[(82,some 2)]⟩,⟨none,[(10,none)]⟩,⟨none,[(84,some 4)]⟩,⟨none,[(12,none)]⟩,⟨none,[(86,some 6)]⟩,⟨none,[(85,some 5),(87,some 7)]⟩,⟨none,[(88,some 8)]⟩,⟨none,[(89,some 9)]⟩,⟨none,[(83,some 3),(90,some 10)]⟩,⟨none,[(91,some 11)]⟩,⟨some (92,false),[(12,none),(92,some 12)]⟩,⟨some (92,false),[(0,none),(92,some 12)]⟩,⟨some (92,false),[(10,none),(92,some 12)]⟩,⟨some (92,false),[(94,some 14),(95,some 15),(92,some 12)]⟩,⟨some (92,false),[(96,some 16),(92,some 12)]⟩,⟨some (92,false),[(97,some 17),(92,some 12)]⟩,⟨some (92,false),[(93,some 13),(98,some 18),(92,some 12)]⟩,⟨some (92,false),[(99,some 19),(92,some 12)]⟩,⟨some (100,true),[(0,none),(100,some 20)]⟩,⟨some (100,true),[(10,none),(100,some 20)]⟩,⟨some (100,true),[(101,some 21),(102,some 22),(100,some 20)]⟩,⟨some (100,true),[(103,some 23),(100,some 20)]⟩,⟨some (100,true),[(12,none),(100,some 20)]⟩,⟨some (100,true),[(104,some 24),(105,some 25),(100,some 20)]⟩,⟨some (100,true),[(106,some 26),(100,some 20)]⟩,⟨some (100,true),[(11,none),(100,some 20)]⟩,⟨some (100,true),[(12,none),(100,some 20)]⟩,⟨some (100,true),[(108,some 28),(109,some 29),(100,some 20)]⟩,⟨some (100,true),[(110,some 30),(100,some 20)]⟩,⟨some (100,true),[(107,some 27),(111,some 31),(100,some 20)]⟩,⟨some (92,false),[(100,some 20),(112,some 32),(92,some 12)]⟩,⟨none,[(92,some 12),(113,some 33)]⟩] (by kernel_rfl) (by kernel_rfl) fun F hF=>?_
      refine Qam (.slice (some ⟨gi,0,none⟩) (N i+10) ci) (by kernel_rfl) (by kernel_rfl) (fun W=>by kernel_rfl) <| Qam (.int .i64 ((j:Nat):Int)) (by kernel_rfl) (by kernel_rfl) (fun W=>by kernel_rfl) <| Qam (.pointer (some ⟨gi,j,none⟩)) (by kernel_rfl) (by kernel_rfl) (fun W=>(Qaw 33 _ _ .i64 (j) gi (N i+10) ci 5 rfl (by kernel_rfl) (by kernel_rfl) (by kernel_rfl) (by kernel_rfl) hj)) <| QaG (.int .u8 (pat i j)) (by kernel_rfl) (by kernel_rfl) (fun W hR=>(Qaz 5 _ _ (.int .u8 (pat i j)) (QcO hcg (Rely.Ext.trans (Qak _) hR)) rfl (by kernel_rfl) (by kernel_rfl))) <| Qam (.int .i64 ((i:Nat):Int)) (by kernel_rfl) (by kernel_rfl) (fun W=>by kernel_rfl) <| Qam (.int .i64 (((29*i:Nat):Int))) (by kernel_rfl) (by kernel_rfl) (fun W=>(Qaf (u:=.int .i64 (IntKind.i64.wrap (29*((i:Nat):Int)))) (by kernel_rfl) (congrArg (Value.int .i64) (i64n _ _ (by omega) (by omega))))) <| Qam (.int .i64 ((j:Nat):Int)) (by kernel_rfl) (by kernel_rfl) (fun W=>by kernel_rfl) <| Qam (.int .i64 (((5*j:Nat):Int))) (by kernel_rfl) (by kernel_rfl) (fun W=>(Qaf (u:=.int .i64 (IntKind.i64.wrap (5*((j:Nat):Int)))) (by kernel_rfl) (congrArg (Value.int .i64) (i64n _ _ (by omega) (by omega))))) <| Qam (.int .i64 (((29*i+5*j:Nat):Int))) (by kernel_rfl) (by kernel_rfl) (fun W=>(Qaf (u:=.int .i64 (IntKind.i64.wrap (((29*i:Nat):Int)+((5*j:Nat):Int)))) (by kernel_rfl) (congrArg (Value.int .i64) (i64n _ _ (by omega) (by omega))))) <| Qam (.int .i64 (((29*i+5*j+3:Nat):Int))) (by kernel_rfl) (by kernel_rfl) (fun W=>(Qaf (u:=.int .i64 (IntKind.i64.wrap (((29*i+5*j:Nat):Int)+3))) (by kernel_rfl) (congrArg (Value.int .i64) (i64n _ _ (by omega) (by omega))))) ?_
      refine Qam (.int .u8 (pat i j)) (by kernel_rfl) (by kernel_rfl) (fun W=>(Qaf (u:=.int .u8 (IntKind.u8.wrap (((29*i+5*j+3:Nat):Int)))) (by kernel_rfl) (congrArg (Value.int .u8) (Qgu _)))) <| Qam (.bool false) (by kernel_rfl) (by kernel_rfl) (fun W=>(Qaf (u:=.bool (((pat i j) != (pat i j)))) (by kernel_rfl) (congrArg Value.bool (bne_self_eq_false _)))) <| Qam (.bool false) (by kernel_rfl) (by kernel_rfl) (fun W=>by kernel_rfl) <| Qam (.int .i64 ((j:Nat):Int)) (by kernel_rfl) (by kernel_rfl) (fun W=>by kernel_rfl) <| Qam (.slice (some ⟨gl,0,none⟩) L L) (by kernel_rfl) (by kernel_rfl) (fun W=>by kernel_rfl) <| Qam (.int .i64 ((i:Nat):Int)) (by kernel_rfl) (by kernel_rfl) (fun W=>by kernel_rfl) <| Qam (.pointer (some ⟨gl,0+i,none⟩)) (by kernel_rfl) (by kernel_rfl) (fun W=>(Qbt 47 _ _ .i64 (i) gl 0 L L 33 rfl (by kernel_rfl) (by kernel_rfl) (by kernel_rfl) (by kernel_rfl) hiL)) <| QaG (.slice none 0 0) (by kernel_rfl) (by kernel_rfl) (fun W hR=>(Qaz 33 _ _ (.slice none 0 0) (QcO hcL (Rely.Ext.trans (Qak _) hR)) rfl (by kernel_rfl) (by kernel_rfl))) <| Qam (.int .i64 0) (by kernel_rfl) (by kernel_rfl) (fun W=>by kernel_rfl) <| Qam (.bool false) (by kernel_rfl) (by kernel_rfl) (fun W=>(Qaf (u:=.bool (decide (((j:Nat):Int)<0))) (by kernel_rfl) (congrArg Value.bool (decide_eq_false (by omega))))) ?_
      refine Qam (.bool false) (by kernel_rfl) (by kernel_rfl) (fun W=>by kernel_rfl) <| Qbq (by kernel_rfl) (by kernel_rfl) <| Qbq (by kernel_rfl) (by kernel_rfl) <| Qbq (by kernel_rfl) (by kernel_rfl) <| Qbq (by kernel_rfl) (by kernel_rfl) <| Qbq (by kernel_rfl) (by kernel_rfl) <| Qbq (by kernel_rfl) (by kernel_rfl) <| Qbq (by kernel_rfl) (by kernel_rfl) <| Qbq (by kernel_rfl) (by kernel_rfl) <| Qbq (by kernel_rfl) (by kernel_rfl) ?_
      refine Qbq (by kernel_rfl) (by kernel_rfl) <| Qbq (by kernel_rfl) (by kernel_rfl) <| Qbq (by kernel_rfl) (by kernel_rfl) <| Qam (.bool false) (by kernel_rfl) (by kernel_rfl) (fun W=>by kernel_rfl) <| Qam (.bool false) (by kernel_rfl) (by kernel_rfl) (fun W=>by kernel_rfl) <| Qbg (hF _ (by kernel_rfl) fun W6 e6=>?_)
      simp only [ups,up,Kn.val,List.take_succ_cons,List.take_zero,List.drop_succ_cons,List.drop_zero,List.nil_append,List.cons_append]
      clear hF
      have x6:Below base w W6:=bx hbase xx6 e6
      refine sgN hK67 <| cond_false (by kernel_rfl) <| wp_skip <| hK65 _ _ <| Qai <| Qab (.int .i64 (((j+1:Nat):Int))) 115 rfl (by kernel_rfl) (Qaf (u:=.int .i64 (IntKind.i64.wrap (((j:Nat):Int)+1))) (by kernel_rfl) (congrArg (Value.int .i64) (i64n _ _ (by omega) (by omega)))) <| Qab (.int .i64 (((j+1:Nat):Int))) 77 rfl (by kernel_rfl) (by kernel_rfl) <| Qao ?_
      repeat (first | with_reducible refine goX1 ?_ | with_reducible refine goX2 ?_ | with_reducible refine goX3 ?_)
      exact Qax (j+1) ⟨kj,kj,kj,kj,kj,kj,kj,kj,trivial⟩ ⟨hj,(hA1.ext e6),(hG1.ext e6),(hL5.ext e6),(Qaa r1 e6),x6⟩ (by show N i+10-(j+1)<N i+10-j; omega)
     ·skip
      rw [Qbx] at hv2
      subst hv2
      have hcL:V6.cell? ⟨gl,0+i,none⟩=some (.slice (some ⟨gv_,0,none⟩) (N i) cv):=by rw [Nat.zero_add]; exact QbP r1 hcl
      rcases Nat.lt_or_ge j (N i) with hjN | hjN
      ·skip
       have hcv:V6.cell? ⟨gv_,j,none⟩=some (.int .u8 (pat i j)):=by rw [hOv.cell j (by rw [Qbx]; omega),QhY _ _ _ (by omega)]
       refine wp_skip <| hK63 _ _ <| wp_seq_k fun K70 hK70=>wp_block <| sgC fun K71 hK71=>Qab (.int .i64 ((j:Nat):Int)) 79 rfl (by kernel_rfl) (by kernel_rfl) <| Qab (.int .i64 ((j:Nat):Int)) 12 rfl (by kernel_rfl) (by kernel_rfl) <| sgN hK71 <| wp_seq_k fun K72 hK72=>QaX 35 [⟨none,[(11,none)]⟩,⟨none,[(12,none)]⟩,⟨none,[(80,some 0),(81,some 1)]⟩,⟨none,[(82,some 2)]⟩,⟨none,[(10,none)]⟩,⟨none,[(84,some 4)]⟩,⟨none,[(12,none)]⟩,⟨none,[(86,some 6)]⟩,⟨none,[(85,some 5),(87,some 7)]⟩,⟨none,[(88,some 8)]⟩,⟨none,[(89,some 9)]⟩,⟨none,[(83,some 3),(90,some 10)]⟩,⟨none,[(91,some 11)]⟩,⟨some (92,false),[(12,none),(92,some 12)]⟩,⟨some (92,false),[(0,none),(92,some 12)]⟩,⟨some (92,false),[(10,none),(92,some 12)]⟩,⟨some (92,false),[(94,some 14),(95,some 15),(92,some 12)]⟩,⟨some (92,false),[(96,some 16),(92,some 12)]⟩,⟨some (92,false),[(97,some 17),(92,some 12)]⟩,⟨some (92,false),[(93,some 13),(98,some 18),(92,some 12)]⟩,⟨some (92,false),[(99,some 19),(92,some 12)]⟩,⟨some (100,true),[(0,none),(100,some 20)]⟩,⟨some (100,true),[(10,none),(100,some 20)]⟩,⟨some (100,true),[(101,some 21),(102,some 22),(100,some 20)]⟩,⟨some (100,true),[(103,some 23),(100,some 20)]⟩,⟨some (100,true),[(12,none),(100,some 20)]⟩,⟨some (100,true),[(104,some 24),(105,some 25),(100,some 20)]⟩,⟨some (100,true),[(106,some 26),(100,some 20)]⟩,⟨some (100,true),[(11,none),(100,some 20)]⟩,⟨some (100,true),[(12,none),(100,some 20)]⟩,⟨some (100,true),[(108,some 28),(109,some 29),(100,some 20)]⟩,⟨some (100,true),[(110,some 30),(100,some 20)]⟩,⟨some (100,true),[(107,some 27),(111,some 31),(100,some 20)]⟩,⟨some (92,false),[(100,some 20),(112,some 32),(92,some 12)]⟩,⟨none,[(92,some 12),(113,some 33)]⟩] (by kernel_rfl) (by kernel_rfl) fun F hF=>?_
       refine Qam (.slice (some ⟨gi,0,none⟩) (N i+10) ci) (by kernel_rfl) (by kernel_rfl) (fun W=>by kernel_rfl) <| Qam (.int .i64 ((j:Nat):Int)) (by kernel_rfl) (by kernel_rfl) (fun W=>by kernel_rfl) <| Qam (.pointer (some ⟨gi,j,none⟩)) (by kernel_rfl) (by kernel_rfl) (fun W=>(Qaw 33 _ _ .i64 (j) gi (N i+10) ci 5 rfl (by kernel_rfl) (by kernel_rfl) (by kernel_rfl) (by kernel_rfl) hj)) <| QaG (.int .u8 (pat i j)) (by kernel_rfl) (by kernel_rfl) (fun W hR=>(Qaz 5 _ _ (.int .u8 (pat i j)) (QcO hcg (Rely.Ext.trans (Qak _) hR)) rfl (by kernel_rfl) (by kernel_rfl))) <| Qam (.int .i64 ((i:Nat):Int)) (by kernel_rfl) (by kernel_rfl) (fun W=>by kernel_rfl) <| Qam (.int .i64 (((29*i:Nat):Int))) (by kernel_rfl) (by kernel_rfl) (fun W=>(Qaf (u:=.int .i64 (IntKind.i64.wrap (29*((i:Nat):Int)))) (by kernel_rfl) (congrArg (Value.int .i64) (i64n _ _ (by omega) (by omega))))) <| Qam (.int .i64 ((j:Nat):Int)) (by kernel_rfl) (by kernel_rfl) (fun W=>by kernel_rfl) <| Qam (.int .i64 (((5*j:Nat):Int))) (by kernel_rfl) (by kernel_rfl) (fun W=>(Qaf (u:=.int .i64 (IntKind.i64.wrap (5*((j:Nat):Int)))) (by kernel_rfl) (congrArg (Value.int .i64) (i64n _ _ (by omega) (by omega))))) <| Qam (.int .i64 (((29*i+5*j:Nat):Int))) (by kernel_rfl) (by kernel_rfl) (fun W=>(Qaf (u:=.int .i64 (IntKind.i64.wrap (((29*i:Nat):Int)+((5*j:Nat):Int)))) (by kernel_rfl) (congrArg (Value.int .i64) (i64n _ _ (by omega) (by omega))))) <| Qam (.int .i64 (((29*i+5*j+3:Nat):Int))) (by kernel_rfl) (by kernel_rfl) (fun W=>(Qaf (u:=.int .i64 (IntKind.i64.wrap (((29*i+5*j:Nat):Int)+3))) (by kernel_rfl) (congrArg (Value.int .i64) (i64n _ _ (by omega) (by omega))))) ?_
       refine Qam (.int .u8 (pat i j)) (by kernel_rfl) (by kernel_rfl) (fun W=>(Qaf (u:=.int .u8 (IntKind.u8.wrap (((29*i+5*j+3:Nat):Int)))) (by kernel_rfl) (congrArg (Value.int .u8) (Qgu _)))) <| Qam (.bool false) (by kernel_rfl) (by kernel_rfl) (fun W=>(Qaf (u:=.bool (((pat i j) != (pat i j)))) (by kernel_rfl) (congrArg Value.bool (bne_self_eq_false _)))) <| Qam (.bool false) (by kernel_rfl) (by kernel_rfl) (fun W=>by kernel_rfl) <| Qam (.int .i64 ((j:Nat):Int)) (by kernel_rfl) (by kernel_rfl) (fun W=>by kernel_rfl) <| Qam (.slice (some ⟨gl,0,none⟩) L L) (by kernel_rfl) (by kernel_rfl) (fun W=>by kernel_rfl) <| Qam (.int .i64 ((i:Nat):Int)) (by kernel_rfl) (by kernel_rfl) (fun W=>by kernel_rfl) <| Qam (.pointer (some ⟨gl,0+i,none⟩)) (by kernel_rfl) (by kernel_rfl) (fun W=>(Qbt 47 _ _ .i64 (i) gl 0 L L 33 rfl (by kernel_rfl) (by kernel_rfl) (by kernel_rfl) (by kernel_rfl) hiL)) <| QaG (.slice (some ⟨gv_,0,none⟩) (N i) cv) (by kernel_rfl) (by kernel_rfl) (fun W hR=>(Qaz 33 _ _ (.slice (some ⟨gv_,0,none⟩) (N i) cv) (QcO hcL (Rely.Ext.trans (Qak _) hR)) rfl (by kernel_rfl) (by kernel_rfl))) <| Qam (.int .i64 (((N i):Nat):Int)) (by kernel_rfl) (by kernel_rfl) (fun W=>by kernel_rfl) <| Qam (.bool true) (by kernel_rfl) (by kernel_rfl) (fun W=>(Qaf (u:=.bool (decide (((j:Nat):Int)<(((N i):Nat):Int)))) (by kernel_rfl) (congrArg Value.bool (decide_eq_true (by omega))))) ?_
       refine Qam (.bool true) (by kernel_rfl) (by kernel_rfl) (fun W=>by kernel_rfl) <| Qam (.slice (some ⟨gl,0,none⟩) L L) (by kernel_rfl) (by kernel_rfl) (fun W=>by kernel_rfl) <| Qam (.int .i64 ((i:Nat):Int)) (by kernel_rfl) (by kernel_rfl) (fun W=>by kernel_rfl) <| Qam (.pointer (some ⟨gl,0+i,none⟩)) (by kernel_rfl) (by kernel_rfl) (fun W=>(Qbt 47 _ _ .i64 (i) gl 0 L L 33 rfl (by kernel_rfl) (by kernel_rfl) (by kernel_rfl) (by kernel_rfl) hiL)) <| QaG (.slice (some ⟨gv_,0,none⟩) (N i) cv) (by kernel_rfl) (by kernel_rfl) (fun W hR=>(Qaz 33 _ _ (.slice (some ⟨gv_,0,none⟩) (N i) cv) (QcO hcL (Rely.Ext.trans (Qak _) hR)) rfl (by kernel_rfl) (by kernel_rfl))) <| Qam (.int .i64 ((j:Nat):Int)) (by kernel_rfl) (by kernel_rfl) (fun W=>by kernel_rfl) <| Qam (.pointer (some ⟨gv_,j,none⟩)) (by kernel_rfl) (by kernel_rfl) (fun W=>(Qaw 33 _ _ .i64 (j) gv_ (N i) cv 5 rfl (by kernel_rfl) (by kernel_rfl) (by kernel_rfl) (by kernel_rfl) hjN)) <| QaG (.int .u8 (pat i j)) (by kernel_rfl) (by kernel_rfl) (fun W hR=>(Qaz 5 _ _ (.int .u8 (pat i j)) (QcO hcv (Rely.Ext.trans (Qak _) hR)) rfl (by kernel_rfl) (by kernel_rfl))) <| Qam (.slice (some ⟨gi,0,none⟩) (N i+10) ci) (by kernel_rfl) (by kernel_rfl) (fun W=>by kernel_rfl) <| Qam (.int .i64 ((j:Nat):Int)) (by kernel_rfl) (by kernel_rfl) (fun W=>by kernel_rfl) ?_
       refine Qam (.pointer (some ⟨gi,j,none⟩)) (by kernel_rfl) (by kernel_rfl) (fun W=>(Qaw 33 _ _ .i64 (j) gi (N i+10) ci 5 rfl (by kernel_rfl) (by kernel_rfl) (by kernel_rfl) (by kernel_rfl) hj)) <| QaG (.int .u8 (pat i j)) (by kernel_rfl) (by kernel_rfl) (fun W hR=>(Qaz 5 _ _ (.int .u8 (pat i j)) (QcO hcg (Rely.Ext.trans (Qak _) hR)) rfl (by kernel_rfl) (by kernel_rfl))) <| Qam (.bool false) (by kernel_rfl) (by kernel_rfl) (fun W=>(Qaf (u:=.bool (((pat i j) != (pat i j)))) (by kernel_rfl) (congrArg Value.bool (bne_self_eq_false _)))) <| Qam (.bool false) (by kernel_rfl) (by kernel_rfl) (fun W=>by kernel_rfl) <| Qam (.bool false) (by kernel_rfl) (by kernel_rfl) (fun W=>by kernel_rfl) <| Qbg (hF _ (by kernel_rfl) fun W6 e6=>?_)
       simp only [ups,up,Kn.val,List.take_succ_cons,List.take_zero,List.drop_succ_cons,List.drop_zero,List.nil_append,List.cons_append]
       clear hF
       have x6:Below base w W6:=bx hbase xx6 e6
       refine sgN hK72 <| cond_false (by kernel_rfl) <| wp_skip <| hK70 _ _ <| Qai <| Qab (.int .i64 (((j+1:Nat):Int))) 115 rfl (by kernel_rfl) (Qaf (u:=.int .i64 (IntKind.i64.wrap (((j:Nat):Int)+1))) (by kernel_rfl) (congrArg (Value.int .i64) (i64n _ _ (by omega) (by omega)))) <| Qab (.int .i64 (((j+1:Nat):Int))) 77 rfl (by kernel_rfl) (by kernel_rfl) <| Qao ?_
       repeat (first | with_reducible refine goX1 ?_ | with_reducible refine goX2 ?_ | with_reducible refine goX3 ?_)
       exact Qax (j+1) ⟨kj,kj,kj,kj,kj,kj,kj,kj,trivial⟩ ⟨hj,(hA1.ext e6),(hG1.ext e6),(hL5.ext e6),(Qaa r1 e6),x6⟩ (by show N i+10-(j+1)<N i+10-j; omega)
      ·skip
       refine wp_skip <| hK63 _ _ <| wp_seq_k fun K76 hK76=>wp_block <| sgC fun K77 hK77=>Qab (.int .i64 ((j:Nat):Int)) 79 rfl (by kernel_rfl) (by kernel_rfl) <| Qab (.int .i64 ((j:Nat):Int)) 12 rfl (by kernel_rfl) (by kernel_rfl) <| sgN hK77 <| wp_seq_k fun K78 hK78=>QaX 35 [⟨none,[(11,none)]⟩,⟨none,[(12,none)]⟩,⟨none,[(80,some 0),(81,some 1)]⟩,⟨none,[(82,some 2)]⟩,⟨none,[(10,none)]⟩,⟨none,[(84,some 4)]⟩,⟨none,[(12,none)]⟩,⟨none,[(86,some 6)]⟩,⟨none,[(85,some 5),(87,some 7)]⟩,⟨none,[(88,some 8)]⟩,⟨none,[(89,some 9)]⟩,⟨none,[(83,some 3),(90,some 10)]⟩,⟨none,[(91,some 11)]⟩,⟨some (92,false),[(12,none),(92,some 12)]⟩,⟨some (92,false),[(0,none),(92,some 12)]⟩,⟨some (92,false),[(10,none),(92,some 12)]⟩,⟨some (92,false),[(94,some 14),(95,some 15),(92,some 12)]⟩,⟨some (92,false),[(96,some 16),(92,some 12)]⟩,⟨some (92,false),[(97,some 17),(92,some 12)]⟩,⟨some (92,false),[(93,some 13),(98,some 18),(92,some 12)]⟩,⟨some (92,false),[(99,some 19),(92,some 12)]⟩,⟨some (100,true),[(0,none),(100,some 20)]⟩,⟨some (100,true),[(10,none),(100,some 20)]⟩,⟨some (100,true),[(101,some 21),(102,some 22),(100,some 20)]⟩,⟨some (100,true),[(103,some 23),(100,some 20)]⟩,⟨some (100,true),[(12,none),(100,some 20)]⟩,⟨some (100,true),[(104,some 24),(105,some 25),(100,some 20)]⟩,⟨some (100,true),[(106,some 26),(100,some 20)]⟩,⟨some (100,true),[(11,none),(100,some 20)]⟩,⟨some (100,true),[(12,none),(100,some 20)]⟩,⟨some (100,true),[(108,some 28),(109,some 29),(100,some 20)]⟩,⟨some (100,true),[(110,some 30),(100,some 20)]⟩,⟨some (100,true),[(107,some 27),(111,some 31),(100,some 20)]⟩,⟨some (92,false),[(100,some 20),(112,some 32),(92,some 12)]⟩,⟨none,[(92,some 12),(113,some 33)]⟩] (by kernel_rfl) (by kernel_rfl) fun F hF=>?_
       refine Qam (.slice (some ⟨gi,0,none⟩) (N i+10) ci) (by kernel_rfl) (by kernel_rfl) (fun W=>by kernel_rfl) <| Qam (.int .i64 ((j:Nat):Int)) (by kernel_rfl) (by kernel_rfl) (fun W=>by kernel_rfl) <| Qam (.pointer (some ⟨gi,j,none⟩)) (by kernel_rfl) (by kernel_rfl) (fun W=>(Qaw 33 _ _ .i64 (j) gi (N i+10) ci 5 rfl (by kernel_rfl) (by kernel_rfl) (by kernel_rfl) (by kernel_rfl) hj)) <| QaG (.int .u8 (pat i j)) (by kernel_rfl) (by kernel_rfl) (fun W hR=>(Qaz 5 _ _ (.int .u8 (pat i j)) (QcO hcg (Rely.Ext.trans (Qak _) hR)) rfl (by kernel_rfl) (by kernel_rfl))) <| Qam (.int .i64 ((i:Nat):Int)) (by kernel_rfl) (by kernel_rfl) (fun W=>by kernel_rfl) <| Qam (.int .i64 (((29*i:Nat):Int))) (by kernel_rfl) (by kernel_rfl) (fun W=>(Qaf (u:=.int .i64 (IntKind.i64.wrap (29*((i:Nat):Int)))) (by kernel_rfl) (congrArg (Value.int .i64) (i64n _ _ (by omega) (by omega))))) <| Qam (.int .i64 ((j:Nat):Int)) (by kernel_rfl) (by kernel_rfl) (fun W=>by kernel_rfl) <| Qam (.int .i64 (((5*j:Nat):Int))) (by kernel_rfl) (by kernel_rfl) (fun W=>(Qaf (u:=.int .i64 (IntKind.i64.wrap (5*((j:Nat):Int)))) (by kernel_rfl) (congrArg (Value.int .i64) (i64n _ _ (by omega) (by omega))))) <| Qam (.int .i64 (((29*i+5*j:Nat):Int))) (by kernel_rfl) (by kernel_rfl) (fun W=>(Qaf (u:=.int .i64 (IntKind.i64.wrap (((29*i:Nat):Int)+((5*j:Nat):Int)))) (by kernel_rfl) (congrArg (Value.int .i64) (i64n _ _ (by omega) (by omega))))) <| Qam (.int .i64 (((29*i+5*j+3:Nat):Int))) (by kernel_rfl) (by kernel_rfl) (fun W=>(Qaf (u:=.int .i64 (IntKind.i64.wrap (((29*i+5*j:Nat):Int)+3))) (by kernel_rfl) (congrArg (Value.int .i64) (i64n _ _ (by omega) (by omega))))) ?_
       refine Qam (.int .u8 (pat i j)) (by kernel_rfl) (by kernel_rfl) (fun W=>(Qaf (u:=.int .u8 (IntKind.u8.wrap (((29*i+5*j+3:Nat):Int)))) (by kernel_rfl) (congrArg (Value.int .u8) (Qgu _)))) <| Qam (.bool false) (by kernel_rfl) (by kernel_rfl) (fun W=>(Qaf (u:=.bool (((pat i j) != (pat i j)))) (by kernel_rfl) (congrArg Value.bool (bne_self_eq_false _)))) <| Qam (.bool false) (by kernel_rfl) (by kernel_rfl) (fun W=>by kernel_rfl) <| Qam (.int .i64 ((j:Nat):Int)) (by kernel_rfl) (by kernel_rfl) (fun W=>by kernel_rfl) <| Qam (.slice (some ⟨gl,0,none⟩) L L) (by kernel_rfl) (by kernel_rfl) (fun W=>by kernel_rfl) <| Qam (.int .i64 ((i:Nat):Int)) (by kernel_rfl) (by kernel_rfl) (fun W=>by kernel_rfl) <| Qam (.pointer (some ⟨gl,0+i,none⟩)) (by kernel_rfl) (by kernel_rfl) (fun W=>(Qbt 47 _ _ .i64 (i) gl 0 L L 33 rfl (by kernel_rfl) (by kernel_rfl) (by kernel_rfl) (by kernel_rfl) hiL)) <| QaG (.slice (some ⟨gv_,0,none⟩) (N i) cv) (by kernel_rfl) (by kernel_rfl) (fun W hR=>(Qaz 33 _ _ (.slice (some ⟨gv_,0,none⟩) (N i) cv) (QcO hcL (Rely.Ext.trans (Qak _) hR)) rfl (by kernel_rfl) (by kernel_rfl))) <| Qam (.int .i64 (((N i):Nat):Int)) (by kernel_rfl) (by kernel_rfl) (fun W=>by kernel_rfl) <| Qam (.bool false) (by kernel_rfl) (by kernel_rfl) (fun W=>(Qaf (u:=.bool (decide (((j:Nat):Int)<(((N i):Nat):Int)))) (by kernel_rfl) (congrArg Value.bool (decide_eq_false (by omega))))) ?_
       refine Qam (.bool false) (by kernel_rfl) (by kernel_rfl) (fun W=>by kernel_rfl) <| Qbq (by kernel_rfl) (by kernel_rfl) <| Qbq (by kernel_rfl) (by kernel_rfl) <| Qbq (by kernel_rfl) (by kernel_rfl) <| Qbq (by kernel_rfl) (by kernel_rfl) <| Qbq (by kernel_rfl) (by kernel_rfl) <| Qbq (by kernel_rfl) (by kernel_rfl) <| Qbq (by kernel_rfl) (by kernel_rfl) <| Qbq (by kernel_rfl) (by kernel_rfl) <| Qbq (by kernel_rfl) (by kernel_rfl) ?_
       refine Qbq (by kernel_rfl) (by kernel_rfl) <| Qbq (by kernel_rfl) (by kernel_rfl) <| Qbq (by kernel_rfl) (by kernel_rfl) <| Qam (.bool false) (by kernel_rfl) (by kernel_rfl) (fun W=>by kernel_rfl) <| Qam (.bool false) (by kernel_rfl) (by kernel_rfl) (fun W=>by kernel_rfl) <| Qbg (hF _ (by kernel_rfl) fun W6 e6=>?_)
       simp only [ups,up,Kn.val,List.take_succ_cons,List.take_zero,List.drop_succ_cons,List.drop_zero,List.nil_append,List.cons_append]
       clear hF
       have x6:Below base w W6:=bx hbase xx6 e6
       refine sgN hK78 <| cond_false (by kernel_rfl) <| wp_skip <| hK76 _ _ <| Qai <| Qab (.int .i64 (((j+1:Nat):Int))) 115 rfl (by kernel_rfl) (Qaf (u:=.int .i64 (IntKind.i64.wrap (((j:Nat):Int)+1))) (by kernel_rfl) (congrArg (Value.int .i64) (i64n _ _ (by omega) (by omega)))) <| Qab (.int .i64 (((j+1:Nat):Int))) 77 rfl (by kernel_rfl) (by kernel_rfl) <| Qao ?_
       repeat (first | with_reducible refine goX1 ?_ | with_reducible refine goX2 ?_ | with_reducible refine goX3 ?_)
       exact Qax (j+1) ⟨kj,kj,kj,kj,kj,kj,kj,kj,trivial⟩ ⟨hj,(hA1.ext e6),(hG1.ext e6),(hL5.ext e6),(Qaa r1 e6),x6⟩ (by show N i+10-(j+1)<N i+10-j; omega)
    ·skip
     have hA2:=hA1
     have hG2:=hG1
     have hL4:=hL5
     have r2:=r1
     refine wp_exit <| hK58 _ _ <| Qai <| Qab (.int .i64 (((i+1:Nat):Int))) 116 rfl (by kernel_rfl) (Qaf (u:=.int .i64 (IntKind.i64.wrap (((i:Nat):Int)+1))) (by kernel_rfl) (congrArg (Value.int .i64) (i64n _ _ (by omega) (by omega)))) <| Qab (.int .i64 (((i+1:Nat):Int))) 70 rfl (by kernel_rfl) (by kernel_rfl) <| Qao ?_
     repeat (first | with_reducible refine goX1 ?_ | with_reducible refine goX2 ?_ | with_reducible refine goX3 ?_)
     exact Qax (i+1) ⟨kj,kj,kj,kj,trivial⟩ ⟨hi,hA2,hG2,hL4,r2,xx6⟩ (by show k-(i+1)<k-i; omega)
   ·skip
    refine wp_exit <| hK52 _ _ <| sgC fun K80 hK80=>Qab (.bool true) 2 rfl (by kernel_rfl) (by kernel_rfl) <| sgN hK80 <| wp_ret ?_
    repeat (first | with_reducible refine goR1 ?_ | with_reducible refine goR2 ?_)
    exact (show bodyPost _ _ _ .ret _ _ from ret1 (.bool true) rfl (Qa0 (by kernel_rfl)) ⟨rfl,xx5⟩)
end Go.Proofs.YtophlgnnjjkkiaaDoor.Ad
end
section
namespace Go.Proofs.YtophlgnnjjkkiaaDoor.Sha
open Go Go.RowKit
open Rely Auto Own
theorem Qk5 {T : TypeId} {base n c:Nat} {xs:List Int} {a:Option Addr} {W:World} (h:OwnN .u8 T base xs (.slice a xs.length c) W) (hn:n≤xs.length):OwnN .u8 T base (xs.take n) (.slice a n c) W:=by
  have hl:(xs.take n).length=n:=by rw [List.length_take]; omega
  obtain ⟨⟨h1,h2⟩,hm⟩:=h
  rcases h2 with ⟨h2,h3⟩ | ⟨g,c',cur,e,q2,q3,q4,q5,q6,q7⟩
  · simp only [Value.slice.injEq] at h2
    obtain ⟨rfl,h4,rfl⟩:=h2
    obtain rfl:=List.length_eq_zero_iff.1 h4
    obtain rfl:n=0:=by simpa using hn
    exact Qbz _ _ _ _
  · simp only [Value.slice.injEq] at e
    obtain ⟨rfl,-,rfl⟩:=e
    refine Qhw hl q2 q3 (by omega) (by omega) q5 ?_
    have:cur.toList.take n=(cur.toList.take (xs.length*1)).take n:=by rw [List.take_take]; congr 1; omega
    rw [this,q7,List.map_take]
theorem OwnN.v {base : Nat} {xs:List Int} {v:Value} {W:World} (h:OwnN .u8 5 base xs v W):OwnV base xs v W:=by
  rcases h.1.2 with ⟨h0,h1⟩ | ⟨g,c,cur,h1,h2,h3,h4,h5,h6,h7⟩
  · exact .inl ⟨h0,List.length_eq_zero_iff.1 h1⟩
  · exact .inr ⟨g,c,cur,h1,h2,h3,by omega,h4,h5,by simpa using h7⟩
theorem Qbn.own {base : Nat} {xs:List Int} {v:Value} {W:World} (h:Qbn 5 base xs v W):OwnN .u8 5 base xs v W:=by
  obtain ⟨g,c,rfl,h2⟩:=h
  have h3:=Qk5 h2 (n:=xs.length) (by simp)
  rwa [List.take_left] at h3
theorem Qbn.base {a b:Nat} {xs:List Int} {v:Value} {W:World} (hab:a≤b) (h:Qbn 5 b xs v W):Qbn 5 a xs v W:=by
  obtain ⟨g,c,rfl,h2⟩:=h
  exact ⟨g,c,rfl,h2.base hab⟩
theorem Qbn.stable (base : Nat) (xs:List Int):QbB Ext (Qbn 5 base xs):=fun _ _ _ hR h=>h.ext hR
theorem Qdq {k k':IntKind} {T T':TypeId} {b b':Nat} {xs ys:List Int} {u v:Value} {V W':World} (hu:OwnN k T b xs u V) (hv:OwnN k' T' b' ys v W') (h:V.heap.size≤b'):v.ownBlock=u.ownBlock→v.ownBlock=none:=fun e=>by
  cases hb:v.ownBlock with
  | none=>rfl
  | some g =>
    have h1:=hv.ge hb
    have h2:=hu.lt (e.symm.trans hb)
    omega
open Ad in
theorem QfN {base gl:Nat} {v0 v1:Value} {l0 l1:List Int} {w:World} (hbase:base≤w.heap.size) (hrow:w.heap[gl]? = some (.cells #[v0,v1] 33)) (h0:OwnV base l0 v0 w) (h1:OwnV base l1 v1 w)
    (n0:l0.length≤100000) (n1:l1.length≤100000) (d01:v0.ownBlock=v1.ownBlock→v0.ownBlock=none) :
    Calls Tryd.prog 20 #[.slice (some ⟨gl,0,none⟩) 2 2] w fun e w'=>e=.returned (.bool true)∧Below base w w':=by
  refine QmX base gl 2 (fun i=>if i=0 then v0 else v1) (fun i=>if i=0 then l0.length else l1.length) _ w hbase hrow (fun i hi=>?_) (by omega) (fun i hi=>?_) (fun i hi=>?_) (fun i j hi hj hn he=>?_)
  · rcases (show i=0∨i=1 by omega) with rfl | rfl <;> rfl
  · rcases (show i=0∨i=1 by omega) with rfl | rfl
    · exact n0
    · exact n1
  · rcases (show i=0∨i=1 by omega) with rfl | rfl
    · exact ⟨l0,rfl,h0⟩
    · exact ⟨l1,rfl,h1⟩
  · rcases (show i=0∨i=1 by omega) with rfl | rfl <;> rcases (show j=0∨j=1 by omega) with rfl | rfl
    · exact absurd rfl hn
    · exact d01 he
    · exact he.trans (d01 he.symm)
    · exact absurd rfl hn
end Go.Proofs.YtophlgnnjjkkiaaDoor.Sha
end
section
namespace Go.Proofs.YtophlgnnjjkkiaaDoor.Ci
open Go Go.RowKit
open Rely Auto Own Sha Sha
open Cha
open Ae hiding run_storeQ bytes_app
open Ll hiding run_storeQ
theorem Qj2 {W : World} {a b:Nat} {c d:Array Value} {s t:TypeId} (h:W.heap[a]? = some (.cells c s)) (k:W.heap[b]? = some (.cells d t)) (hn:s≠t):a≠b:=fun e=>by
  subst e
  rw [h] at k
  simp only [Option.some.injEq,Obj.cells.injEq] at k
  exact hn k.2.1
theorem Qgh (n : Int):Qaj [IntKind.u8.wrap n]:=fun x hx=>by
  simp only [List.mem_cons,List.not_mem_nil,or_false] at hx
  subst hx
  have h3:∀ z:Int,IntKind.u8.wrap z=z%256:=fun _=>rfl
  rw [h3]; omega
theorem Qcz (base : Nat) (key:List Int):QbB Ext (QeU base key):=fun _ _ _ hR ⟨g,e,h1,h2⟩=>⟨g,e,h1,Qaa h2 hR⟩
theorem Qj0 (n0 : Nat) (key:List Int) (w:World) (hkl:key.length=32) (h0:n0≤w.heap.size):Calls Tryd.prog 8 #[.agg (ints .u8 key)] w (Qb8 w (QeU n0 key)) :=
  (Qnw key w hkl).mono fun e W' h=>by
    obtain ⟨v,e1,e2,g,e3,e4,e5⟩:=h
    exact ⟨v,e1,e2,g,e3,qT h0 e4,e5⟩
set_option maxRecDepth 100000 in
theorem Qme (key : List Int) (number:Int) (len cap gT oT:Nat) (ad:Option Addr) (ops:Nat→OpV)  (th tq tsc tsq:TypeId) (w:World) (had:0<len→ad=some ⟨gT,oT,none⟩) (hops:∀ i,i<len→OpAt w gT oT i (ops i)) (hh:w.heap[2]? = some (.cells (ints .u32 [1634760805,857760878,2036477234,1797285236]) th)) (hq:w.heap[3]? = some (.cells (ints .i64 [0,4,8,12,1,5,9,13,2,6,10,14,3,7,11,15,0,5,10,15,1,6,11,12,2,7,8,13,3,4,9,14]) tq)) (hsc:w.heap[1]? = some (.cells (ints .u64 Qb4) tsc)) (hsq:w.heap[0]? = some (.cells (ints .u64 QaV) tsq)) (hkl:key.length=32) (hkb:Qaj key) (hall:¬ ∀ i,i<len→i≤60∧(ops i).xs.length≤500):Calls Tryd.prog 3 #[.agg (ints .u8 key),.int .i64 number,.slice ad len cap] w (Ret w (.bool true)):=by
  refine enter 132 [(0,.agg (ints .u8 (key))),(1,.int .i64 number),(2,.slice ad len cap)] Tryd.func3 rfl rfl kj rfl <| sgC fun K5 hK5=>Qaq (ints .u8 (key)) 23 3 rfl kj kj fun g6 W1 l6 e1 r6_1=>?_
  have b6:=qT (Rely.Ext.refl w).size l6
  refine sg 1 kj <| sgN hK5 <| wp_seq_k fun K7 hK7=>sgC fun K8 hK8=>Qa6 (.bool true) 6 #[] 17 rfl kj kj (Qgq th tq tsc tsq _ (Qaa hh e1) (Qaa hq e1) (Qaa hsc e1) (Qaa hsq e1)) fun W2 e2=>?_
  have x2:=Ext.tr (Ext.tr (Rely.Ext.refl w) e1) e2
  refine sg 1 kj <| sgN hK8 <| cond_false kj <| wp_skip <| hK7 _ _ <| wp_seq_k fun K9 hK9=>sgC fun K10 hK10=>sg 1 kj <| Qa6 (.bool true) 7 #[.slice ad len cap] 20 rfl kj kj (QlR len cap gT oT ad ops _ had (fun i hi=>OpAt.ext (hops i hi) x2) hall) fun W3 e3=>sgN hK10 ?_
  refine cond_true kj <| sgB kj <| wp_ret ?_
  repeat (first | with_reducible refine goR1 ?_ | with_reducible refine goR2 ?_)
  exact (show bodyPost _ _ _ .ret _ _ from ret1 (.bool true) rfl (Qa0 kj) ⟨rfl,(Ext.tr x2 e3)⟩)
set_option maxRecDepth 100000 in
theorem Qmc (key : List Int) (number:Int) (len cap gT oT:Nat) (ad:Option Addr) (ops:Nat→OpV)  (th tq tsc tsq:TypeId) (w:World) (had:0<len→ad=some ⟨gT,oT,none⟩) (hops:∀ i,i<len→OpAt w gT oT i (ops i)) (hh:w.heap[2]? = some (.cells (ints .u32 [1634760805,857760878,2036477234,1797285236]) th)) (hq:w.heap[3]? = some (.cells (ints .i64 [0,4,8,12,1,5,9,13,2,6,10,14,3,7,11,15,0,5,10,15,1,6,11,12,2,7,8,13,3,4,9,14]) tq)) (hsc:w.heap[1]? = some (.cells (ints .u64 Qb4) tsc)) (hsq:w.heap[0]? = some (.cells (ints .u64 QaV) tsq)) (hkl:key.length=32) (hkb:Qaj key) (hall:∀ i,i<len→i≤60∧(ops i).xs.length≤500) (n:Nat) (hn:n≤4294967295):Calls Tryd.prog 3 #[.agg (ints .u8 key),.int .i64 ((n:Nat):Int),.slice ad len cap] w (Ret w (.bool true)):=by
 refine enter 132 [(0,.agg (ints .u8 (key))),(1,.int .i64 ((n:Nat):Int)),(2,.slice ad len cap)] Tryd.func3 rfl rfl kj rfl <| sgC fun K5 hK5=>Qaq (ints .u8 (key)) 23 3 rfl kj kj fun g6 W1 l6 e1 r6_1=>?_
 have b6:=qT (Rely.Ext.refl w).size l6
 refine sg 1 kj <| sgN hK5 <| wp_seq_k fun K7 hK7=>sgC fun K8 hK8=>?_
 have r2_1:=(Qaa hh e1)
 have r1_1:=(Qaa hq e1)
 refine Qa6 (.bool true) 6 #[] 17 rfl kj kj (Qgq th tq tsc tsq _ r2_1 r1_1 (Qaa hsc e1) (Qaa hsq e1)) fun W2 e2=>?_
 have x2:=Ext.tr (Ext.tr (Rely.Ext.refl w) e1) e2
 refine sg 1 kj <| sgN hK8 <| cond_false kj <| wp_skip <| hK7 _ _ <| wp_seq_k fun K9 hK9=>sgC fun K10 hK10=>sg 1 kj <| Qa6 (.bool false) 7 #[.slice ad len cap] 20 rfl kj kj (Qh9 len cap gT oT ad ops _ had (fun i hi=>OpAt.ext (hops i hi) x2) hall) fun W3 e3=>?_
 have x3:=Ext.tr x2 e3
 refine sgN hK10 <| cond_false kj <| wp_skip <| hK9 _ _ <| wp_seq_k fun K11 hK11=>QaD 6 [⟨none,[(3,none)]⟩,⟨none,[(21,some 0)]⟩,⟨none,[(3,none)]⟩,⟨none,[(23,some 2)]⟩,⟨none,[]⟩,⟨none,[(22,some 1)]⟩] kj kj fun F hF=>?_
 have r6_3:=(Qaa (Qaa r6_1 e2) e3)
 refine QaR (Qag _) (.agg (ints .u8 (key))) kj kj (fun W hR=>(Qap 23 _ g6 23 _ _ (Qaa (Qaa r6_3 (Qak _)) hR) rfl kj kj (isz (n:=32) kj ((Qac _ _).trans hkl)))) <| Qcv (Qag _) (QeU W3.heap.size key) (Qcz _ _) 8 #[.agg (ints .u8 (key))] kj kj (fun W=>by kernel_rfl) (fun W hR=>(Qj0 W3.heap.size key _ hkl (Rely.Ext.trans (Qak _) hR).size)) <| QaR (Qag _) (.agg (ints .u8 (key))) kj kj (fun W hR=>(Qap 23 _ g6 23 _ _ (Qaa (Qaa r6_3 (Qak _)) hR) rfl kj kj (isz (n:=32) kj ((Qac _ _).trans hkl)))) <| Qar (Qag _) (.agg (cat [ints .u8 (List.replicate 32 0),ints .u8 (List.replicate 32 0),#[.bool true],ints .u8 (key),#[.int .i64 0]])) kj kj (fun W=>(Qc7 31 _ (.agg (cat [ints .u8 (List.replicate 32 0),ints .u8 (List.replicate 32 0),#[.bool false],ints .u8 (List.replicate 32 0),#[.int .i64 0]])) #[(0,32),(32,32),(64,1),(65,32),(97,1)] 64 [ints .u8 (List.replicate 32 0),ints .u8 (List.replicate 32 0)] (cat [#[.bool false],ints .u8 (List.replicate 32 0),#[.int .i64 0]]) [(2,1,.bool true,#[.bool true]),(3,32,.agg (ints .u8 (key)),ints .u8 (key))] [#[.int .i64 0]] rfl kj (by rw [Qad,Qad]; simp only [qS,cat,((Qac _ _).trans (List.length_replicate (n:=32)))]; rfl) ⟨kj,rfl,kj,kj,rfl,((Qac _ _).trans hkl),trivial⟩ kj (Nat.le_of_ble_eq_true kj) kj kj kj kj)) ?_
 refine Qhd (Qag _) (cat [ints .u8 (List.replicate 32 0),ints .u8 (List.replicate 32 0),#[.bool false],ints .u8 (List.replicate 32 0),#[.int .i64 0]]) 31 (NewP.stable _ _ _) kj kj (fun W=>by kernel_rfl) <| Qbr (Qag _) (QeU W3.heap.size key) (Qcz _ _) (fun ρ W hR hh=>⟨ρ 22,W,by kernel_rfl,Rely.Ext.refl _,(show (QeU W3.heap.size key) (ρ 22) W from hh.1)⟩) <| QbN (hF _ fun W4 e4=>?_)
 simp only [List.nil_append,List.cons_append,List.take_succ_cons,List.take_zero,List.drop_succ_cons,List.drop_zero,finE,up]
 intro vv12 hv12 vv13 hv13 vv14 hv14
 clear hF
 obtain ⟨gc15,rfl,lc15,rc15⟩:=hv12
 have bc15:=qT x3.size lc15
 obtain ⟨g13,rfl,l13,r13_4⟩:=hv13
 have b13:=qT x3.size l13
 obtain ⟨gc16,rfl,lc16,rc16⟩:=hv14
 have bc16:=qT x3.size lc16
 have n8c:g13≠gc16:=Qj2 r13_4 rc16 (by decide)
 refine Qal g13 _ (cat [ints .u8 (List.replicate 32 0),ints .u8 (List.replicate 32 0),#[.bool true],ints .u8 (key),#[.int .i64 0]]) 31 r13_4 rfl kj (Qan 31 _ _ g13 31 _ _ r13_4 rfl kj kj (isz (n:=98) kj (by rw [Qad,Qad,Qad,Qad,Qad]; simp only [qS,cat,((Qac _ _).trans (List.length_replicate (n:=32))),((Qac _ _).trans hkl)]; rfl)) (eqsz (n:=98) (by rw [Qad,Qad,Qad,Qad,Qad]; simp only [qS,cat,((Qac _ _).trans (List.length_replicate (n:=32)))]; rfl) (by rw [Qad,Qad,Qad,Qad,Qad]; simp only [qS,cat,((Qac _ _).trans (List.length_replicate (n:=32))),((Qac _ _).trans hkl)]; rfl)) (Qcl _ (by intro a ha; simp only [List.mem_cons,List.not_mem_nil,or_false] at ha; rcases ha with rfl | rfl | rfl | rfl | rfl; exact (Qav _ _); exact (Qav _ _); exact (QaZ _ rfl); exact (Qav _ _); exact (QaZ _ rfl)))) fun W5 p5 r13_5=>?_
 refine sgN hK11 <| wp_seq_k fun K17 hK17=>sgC fun K18 hK18=>sg 4 kj ?_
 have r16_5:=(Puts.row p5 rc16 (Ne.symm n8c))
 refine Qa6 (.bool true) 9 #[.pointer (some ⟨gc16,0,none⟩)] 29 rfl kj kj (Qmh gc16 key 0 _ hkl r16_5) fun W6 e6=>sg 5 kj <| Qat (fun v W'=>v=.bool true∧ExtB gc16 W6 W'∧W'.heap[gc16]? = some (.cells (cat [ints .u8 (key),#[.bool true],#[.int .i64 ((n:Nat):Int)]]) 65)) 10 #[.pointer (some ⟨gc16,0,none⟩),.int .i64 ((n:Nat):Int)] 35 rfl kj kj ((QlS gc16 key 0 ((n:Nat):Int) _ hkl (Qaa r16_5 e6) (by omega)).mono (by intro e w' h; exact ⟨_,h.1,rfl,h.2⟩)) fun v W7 h19=>?_
 obtain ⟨rfl,q7,r16_7⟩:=h19
 refine sg 1 kj <| Qab (.bool true) 37 rfl kj (Qaf (u:=.bool (decide (((n:Nat):Int)≥0))) kj (congrArg Value.bool (decide_eq_true (by omega)))) <| sg 2 kj <| Qab (.bool true) 40 rfl kj (Qaf (u:=.bool (decide (((n:Nat):Int)≤4294967295))) kj (congrArg Value.bool (decide_eq_true (by omega)))) <| sg 3 kj <| sgN hK18 <| cond_false kj <| wp_skip <| hK17 _ _ <| wp_seq_k fun K20 hK20=>?_
 refine sgC fun K21 hK21=>sg 1 kj <| Qab (.bool true) 45 rfl kj (Qaf (u:=.bool (decide (((n:Nat):Int)≥0))) kj (congrArg Value.bool (decide_eq_true (by omega)))) <| sg 2 kj <| Qab (.bool true) 48 rfl kj (Qaf (u:=.bool (decide (((n:Nat):Int)≤4294967295))) kj (congrArg Value.bool (decide_eq_true (by omega)))) <| sg 1 kj <| sgN hK21 <| cond_true kj <| Qai <| sg 2 kj ?_
 have r13_7:=(ExtB.row q7 (Qaa r13_5 e6) n8c)
 refine Qal g13 _ (cat [ints .u8 (List.replicate 32 0),ints .u8 (List.replicate 32 0),#[.bool true],ints .u8 (key),#[.int .i64 ((n:Nat):Int)]]) 31 r13_7 rfl kj (run_storeQ 3 _ _ g13 97 31 [ints .u8 (List.replicate 32 0),ints .u8 (List.replicate 32 0),#[.bool true],ints .u8 (key)] [] _ (.int .i64 ((n:Nat):Int)) r13_7 rfl kj kj kj (by rw [Qad,Qad,Qad,Qad]; simp only [qS,cat,((Qac _ _).trans (List.length_replicate (n:=32))),((Qac _ _).trans hkl)]; rfl) rfl rfl) fun W8 p8 r13_8=>?_
 refine Qao <| hK20 _ _ <| wp_seq_k fun K22 hK22=>sgB kj <| wp_block <| Qa5 (fun (s1:Nat×Nat)=>[(7,.pointer (some ⟨gc16,0,none⟩)),(8,.pointer (some ⟨g13,0,none⟩)),(52,.slice ad len cap),(53,.int .i64 ((len:Nat):Int)),(54,.int .i64 ((s1.1:Nat):Int))]) (fun (s1:Nat×Nat) W=>(s1.1≤len)∧(s1.2≤4294967295)∧(W.heap[gc16]? = some (.cells (cat [ints .u8 (key),#[.bool true],#[.int .i64 ((s1.2:Nat):Int)]]) 65))∧(W.heap[g13]? = some (.cells (cat [ints .u8 (List.replicate 32 0),ints .u8 (List.replicate 32 0),#[.bool true],ints .u8 (key),#[.int .i64 ((s1.2:Nat):Int)]]) 31))∧(Qas [gc16,g13] W8 W)∧(Ext w W)) (fun (s1:Nat×Nat)=>len-s1.1) (0,n) ⟨kj,kj,kj,kj,kj,trivial⟩ ⟨(Nat.zero_le _),hn,(Puts.row p8 r16_7 (Ne.symm n8c)),r13_8,(Qas.refl [gc16,g13] W8),(Puts.ext p8 (ExtB.up (Ext.tr (Puts.ext p5 (Ext.tr x3 e4) b13) e6) q7 bc16) b13)⟩ fun s1 X1 V1 hI1=>?_
 obtain ⟨i,num⟩:=s1
 obtain ⟨hi,hnum,q16_1,q13_1,kk1,xx1⟩:=hI1
 replace hi:i≤len:=hi
 replace hnum:num≤4294967295:=hnum
 replace q16_1:V1.heap[gc16]? = some (.cells (cat [ints .u8 (key),#[.bool true],#[.int .i64 ((num:Nat):Int)]]) 65):=q16_1
 replace q13_1:V1.heap[g13]? = some (.cells (cat [ints .u8 (List.replicate 32 0),ints .u8 (List.replicate 32 0),#[.bool true],ints .u8 (key),#[.int .i64 ((num:Nat):Int)]]) 31):=q13_1
 replace kk1:Qas [gc16,g13] W8 V1:=kk1
 replace xx1:Ext w V1:=xx1
 have q9:=kk1
 refine sgB kj <| wp_seq_k fun K25 hK25=>Qay (t:=decide (((i:Nat):Int)<((len:Nat):Int))) kj (fun c26=>?_) (fun c26=>?_)
 ·skip
  have hlt:i<len:=by have:=of_decide_eq_true c26; omega
  obtain ⟨op,hopE⟩:∃ z,z=ops i:=⟨_,rfl⟩
  have hop:OpAt w gT oT i op:=hopE▸hops i hlt
  have hox:op.xs.length≤500:=hopE▸(hall i hlt).2
  have hi60:=(hall i hlt).1
  have hobx:=OpAt.bytes hop
  obtain ⟨cx,ecx⟩:∃ z,z=IntKind.u8.wrap op.n:=⟨_,rfl⟩
  have hcx:Qaj [cx]:=ecx▸Qgh _
  refine wp_skip <| hK25 _ _ <| wp_seq_k fun K27 hK27=>wp_block <| sgC fun K28 hK28=>Qab (.pointer (some ⟨gT,oT+i*3,none⟩)) 56 rfl kj (QdR 24 _ _ .i64 i gT oT len cap 35 3 ad (had (by omega)) rfl kj kj kj kj hlt) <| Qab (.agg (cat [#[.int .i64 op.kind],#[.slice op.a op.xs.length op.c],#[.int .i64 op.n]])) 57 rfl kj (Qd2 35 _ gT oT i op (OpAt.ext hop xx1) rfl kj kj kj) <| Qaq (cat [#[.int .i64 0],#[.slice none 0 0],#[.int .i64 0]]) 35 10 rfl kj kj fun g29 W10 l29 e10 r29_10=>Qal g29 _ (cat [#[.int .i64 op.kind],#[.slice op.a op.xs.length op.c],#[.int .i64 op.n]]) 35 r29_10 rfl kj (Qan 35 _ _ g29 35 _ _ r29_10 rfl kj kj (isz (n:=3) kj kj) (eqsz (n:=3) kj kj) kj) fun W11 p11 r29_11=>?_
  have x11:=Puts.ext p11 (Ext.tr xx1 e10) (qT xx1.size l29)
  refine sgN hK28 <| sgC fun K30 hK30=>sg 1 kj <| Qab (.int .i64 op.n) 59 rfl kj (Qah 3 _ g29 2 35 _ (.int .i64 op.n) _ r29_11 rfl kj kj kj) <| Qab (.int .u8 (cx)) 60 rfl kj (Qaf (u:=.int .u8 (IntKind.u8.wrap (op.n))) kj (congrArg (Value.int .u8) ecx.symm)) <| Qa7 (ints .u8 ([(cx)])) 5 1 61 rfl kj kj fun g31 W12 l31 e12 r31_12=>?_
  have x12:=Ext.tr x11 e12
  have b31:=qT x11.size l31
  refine sg 1 kj <| sgN hK30 <| sgC fun K32 hK32=>sg 1 kj ?_
  have r29_12:=(Qaa r29_11 e12)
  refine Qab (.slice op.a op.xs.length op.c) 63 rfl kj (Qah 33 _ g29 1 35 _ (.slice op.a op.xs.length op.c) _ r29_12 rfl kj kj kj) <| Qat (fun v W'=>(Qbn 5 W12.heap.size (op.xs)) v W'∧Ext W12 W') 11 #[.slice op.a op.xs.length op.c] 64 rfl kj kj ((Qmn (op.xs) _ _ _ (by omega) (OpAt.rd (OpAt.ext hop x12))).mono (by rintro e w' ⟨v,rfl,e1,hv⟩; exact ⟨v,rfl,hv,e1⟩)) fun vv33 W13 hh33=>?_
  obtain ⟨hv33,e13⟩:=hh33
  have x13:=Ext.tr x12 e13
  obtain ⟨gk34,ck34,rfl,ho34⟩:=hv33
  refine sg 1 kj <| sgN hK32 <| sgB kj <| sgB kj <| sgB kj <| wp_seq_k fun K38 hK38=>sgC fun K39 hK39=>sg 1 kj ?_
  have r29_13:=(Qaa r29_12 e13)
  refine Qab (.int .i64 op.kind) 66 rfl kj (Qah 3 _ g29 0 35 _ (.int .i64 op.kind) _ r29_13 rfl kj kj kj) <| sg 1 kj <| sgN hK39 <| Qay (t:=(op.kind==2)) kj (fun c40=>?_) (fun c40=>?_)
  ·skip
   obtain ⟨xo,bad,n2,hxob,hxol,hn2,hP,hR_⟩:=Qgm key num [cx] op.xs hkl hkb hnum hcx (by show 1≤1048576; decide) hobx (by omega)
   refine sgC fun K41 hK41=>sg 3 kj ?_
   have r31_13:=(Qaa r31_12 e13)
   have r16_10:=(Qaa q16_1 e10)
   have r16_11:=(Puts.row p11 r16_10 (Qae q16_1 l29))
   have r16_12:=(Qaa r16_11 e12)
   have r16_13:=(Qaa r16_12 e13)
   have r2_2:=(Qaa r2_1 e2)
   have r2_3:=(Qaa r2_2 e3)
   have r2_4:=(Qaa r2_3 e4)
   have r2_5:=(Puts.row p5 r2_4 (Qae r2_3 l13))
   have r2_6:=(Qaa r2_5 e6)
   have r2_7:=(ExtB.row q7 r2_6 (Qae r2_3 lc16))
   have r2_8:=(Puts.row p8 r2_7 (Qae r2_3 l13))
   have r2_9:=(Qas.row q9 r2_8 (QaC (Qae r2_3 lc16) (QaC (Qae r2_3 l13) QaS)))
   have r2_10:=(Qaa r2_9 e10)
   have r2_11:=(Puts.row p11 r2_10 (Qae r2_9 l29))
   have r2_12:=(Qaa r2_11 e12)
   have r2_13:=(Qaa r2_12 e13)
   have r1_2:=(Qaa r1_1 e2)
   have r1_3:=(Qaa r1_2 e3)
   have r1_4:=(Qaa r1_3 e4)
   have r1_5:=(Puts.row p5 r1_4 (Qae r1_3 l13))
   have r1_6:=(Qaa r1_5 e6)
   have r1_7:=(ExtB.row q7 r1_6 (Qae r1_3 lc16))
   have r1_8:=(Puts.row p8 r1_7 (Qae r1_3 l13))
   have r1_9:=(Qas.row q9 r1_8 (QaC (Qae r1_3 lc16) (QaC (Qae r1_3 l13) QaS)))
   have r1_10:=(Qaa r1_9 e10)
   have r1_11:=(Puts.row p11 r1_10 (Qae r1_9 l29))
   have r1_12:=(Qaa r1_11 e12)
   have r1_13:=(Qaa r1_12 e13)
   have r13_10:=(Qaa q13_1 e10)
   have r13_11:=(Puts.row p11 r13_10 (Qae q13_1 l29))
   have r13_12:=(Qaa r13_11 e12)
   have r13_13:=(Qaa r13_12 e13)
   refine Qat (fun v W'=>∃ u,v=.tuple #[u,errV bad]∧OwnN .u8 5 W13.heap.size xo u W'∧ExtB gc16 W13 W'∧W'.heap[gc16]? = some (.cells (cat [ints .u8 (key),#[.bool true],#[.int .i64 ((n2:Nat):Int)]]) 65)) 12 #[.pointer (some ⟨gc16,0,none⟩),.slice (some ⟨g31,0,none⟩) 1 1,.slice (some ⟨gk34,0,none⟩) (op.xs).length ck34] 72 rfl kj kj ((hP gc16 _ _ _ _ th tq _ r2_13 r1_13 r16_13 (QaI (xs:=[(cx)]) (n:=1) rfl r31_13 (Qau r31_13) (show 1≤maxLen from by decide)) (OwnN.rd (Qbn.own ⟨gk34,ck34,rfl,ho34⟩))).mono (by rintro e w' ⟨u,rfl,h1,h2,h3⟩; exact ⟨_,rfl,u,rfl,h1,h2,h3⟩)) fun v W14 h42=>?_
   obtain ⟨u42_,rfl,hu42_,q14,r16_14⟩:=h42
   have x14:=ExtB.up x13 q14 bc16
   obtain ⟨a42_,c42_,rfl,-⟩:=id (OwnN.rd hu42_)
   refine sg 5 kj <| sgN hK41 <| Qai ?_
   have r13_14:=(ExtB.row q14 r13_13 n8c)
   refine Qab (.agg (cat [ints .u8 (List.replicate 32 0),ints .u8 (List.replicate 32 0),#[.bool true],ints .u8 (key),#[.int .i64 ((num:Nat):Int)]])) 76 rfl kj (Qap 31 _ g13 31 _ _ r13_14 rfl kj kj (isz (n:=98) kj (by rw [Qad,Qad,Qad,Qad,Qad]; simp only [qS,cat,((Qac _ _).trans (List.length_replicate (n:=32))),((Qac _ _).trans hkl)]; rfl))) ?_
   refine sg 2 kj ?_
   have r29_14:=(ExtB.row q14 r29_13 (Qa2 q16_1 l29))
   refine Qab (.slice op.a op.xs.length op.c) 79 rfl kj (Qah 33 _ g29 1 35 _ (.slice op.a op.xs.length op.c) _ r29_14 rfl kj kj kj) ?_
   have r31_14:=(ExtB.row q14 r31_13 (Qa2 r16_11 l31))
   refine Qat (fun v W'=>(fun v W=>∃ u,v=.tuple #[u,.agg (cat [ints .u8 (List.replicate 32 0),ints .u8 (List.replicate 32 0),#[.bool true],ints .u8 (key),#[.int .i64 ((n2:Nat):Int)]]),.int .i64 bad]∧OwnN .u8 5 W14.heap.size xo u W) v W'∧Ext W14 W') 13 #[.agg (cat [ints .u8 (List.replicate 32 0),ints .u8 (List.replicate 32 0),#[.bool true],ints .u8 (key),#[.int .i64 ((num:Nat):Int)]]),.slice (some ⟨g31,0,none⟩) 1 1,.slice op.a op.xs.length op.c] 80 rfl kj kj ((hR_ (List.replicate 32 0) (List.replicate 32 0) _ _ _ _ _ (List.length_replicate (n:=32)) (List.length_replicate (n:=32)) (QaI (xs:=[(cx)]) (n:=1) rfl r31_14 (Qau r31_14) (show 1≤maxLen from by decide)) (OpAt.rd (OpAt.ext hop x14))).mono (by rintro e w' ⟨v,rfl,e1,hv⟩; exact ⟨v,rfl,hv,e1⟩)) fun vv43 W15 hh43=>?_
   obtain ⟨hv43,e15⟩:=hh43
   have x15:=Ext.tr x14 e15
   obtain ⟨u44_,rfl,hu44_⟩:=hv43
   obtain ⟨a44_,c44_,rfl,-⟩:=id (OwnN.rd hu44_)
   refine sg 5 kj ?_
   have r13_15:=(Qaa r13_14 e15)
   refine Qal g13 _ (cat [ints .u8 (List.replicate 32 0),ints .u8 (List.replicate 32 0),#[.bool true],ints .u8 (key),#[.int .i64 ((n2:Nat):Int)]]) 31 r13_15 rfl kj (Qan 31 _ _ g13 31 _ _ r13_15 rfl kj kj (isz (n:=98) kj (by rw [Qad,Qad,Qad,Qad,Qad]; simp only [qS,cat,((Qac _ _).trans (List.length_replicate (n:=32))),((Qac _ _).trans hkl)]; rfl)) (eqsz (n:=98) (by rw [Qad,Qad,Qad,Qad,Qad]; simp only [qS,cat,((Qac _ _).trans (List.length_replicate (n:=32))),((Qac _ _).trans hkl)]; rfl) (by rw [Qad,Qad,Qad,Qad,Qad]; simp only [qS,cat,((Qac _ _).trans (List.length_replicate (n:=32))),((Qac _ _).trans hkl)]; rfl)) (Qcl _ (by intro a ha; simp only [List.mem_cons,List.not_mem_nil,or_false] at ha; rcases ha with rfl | rfl | rfl | rfl | rfl; exact (Qav _ _); exact (Qav _ _); exact (QaZ _ rfl); exact (Qav _ _); exact (QaZ _ rfl)))) fun W16 p16 r13_16=>?_
   have x16:=Puts.ext p16 x15 b13
   refine sg 1 kj <| Qao <| hK38 _ _ <| wp_seq_k fun K45 hK45=>QaD 27 [⟨none,[(16,none)]⟩,⟨none,[(100,some 0)]⟩,⟨none,[(13,none)]⟩,⟨none,[(101,some 1),(102,some 2)]⟩,⟨none,[(103,some 3)]⟩,⟨some (104,false),[(14,none),(104,some 4)]⟩,⟨some (104,false),[(15,none),(104,some 4)]⟩,⟨some (104,false),[(105,some 5),(106,some 6),(104,some 4)]⟩,⟨some (104,false),[(107,some 7),(104,some 4)]⟩,⟨none,[(104,some 4),(108,some 8)]⟩,⟨none,[(109,some 9)]⟩,⟨some (110,false),[(7,none),(110,some 10)]⟩,⟨some (110,false),[(111,some 11),(110,some 10)]⟩,⟨some (110,false),[(8,none),(110,some 10)]⟩,⟨some (110,false),[(113,some 13),(110,some 10)]⟩,⟨some (110,false),[(112,some 12),(114,some 14),(110,some 10)]⟩,⟨none,[(110,some 10),(115,some 15)]⟩,⟨none,[(116,some 16)]⟩,⟨some (117,false),[(12,none),(117,some 17)]⟩,⟨some (117,false),[(10,none),(117,some 17)]⟩,⟨some (117,false),[(119,some 19),(117,some 17)]⟩,⟨some (117,false),[(118,some 18),(120,some 20),(117,some 17)]⟩,⟨some (117,false),[(121,some 21),(117,some 17)]⟩,⟨none,[(117,some 17),(122,some 22)]⟩,⟨none,[(123,some 23)]⟩,⟨some (124,false),[(14,none),(124,some 24)]⟩,⟨some (124,false),[(12,none),(124,some 24)]⟩] kj kj fun F hF=>Qar (Qag _) (errV bad) kj kj (fun W=>by kernel_rfl) <| QbS (Qag _) (.int .i64 bad) 16 #[errV bad] kj kj (fun W=>by kernel_rfl) (fun W hR=>(numV bad) W) <| Qar (Qag _) (.int .i64 bad) kj kj (fun W=>by kernel_rfl) <| Qar (Qag _) (.bool false) kj kj (fun W=>(Qaf (u:=.bool ((bad != bad))) kj (congrArg Value.bool (bne_self_eq_false _)))) <| Qar (Qag _) (.bool false) kj kj (fun W=>by kernel_rfl) ?_
   refine Qar (Qag _) (.slice a42_ ((xo).length) c42_) kj kj (fun W=>by kernel_rfl) <| Qar (Qag _) (.slice a44_ ((xo).length) c44_) kj kj (fun W=>by kernel_rfl) ?_
   have f47_16:=((hu42_.ext e15).puts p16 (Qbe hu42_ (Qau r13_13)))
   refine QbS (Qag _) (.bool true) 17 #[.slice a42_ ((xo).length) c42_,.slice a44_ ((xo).length) c44_] kj kj (fun W=>by kernel_rfl) (fun W hR=>(Qi8 _ _ _ _ W rfl (RdK.bytes (RdK.ext (OwnN.rd f47_16) (Rely.Ext.trans (Qak _) hR)) hxob) (RdK.bytes (RdK.ext (OwnN.rd (hu44_.puts p16 (Qbe hu44_ (Qau r13_14)))) (Rely.Ext.trans (Qak _) hR)) hxob))) <| Qar (Qag _) (.bool false) kj kj (fun W=>by kernel_rfl) <| Qar (Qag _) (.bool false) kj kj (fun W=>by kernel_rfl) <| Qar (Qag _) (.bool false) kj kj (fun W=>by kernel_rfl) <| Qar (Qag _) (.pointer (some ⟨gc16,0,none⟩)) kj kj (fun W=>by kernel_rfl) ?_
   have r16_15:=(Qaa r16_14 e15)
   have r16_16:=(Puts.row p16 r16_15 (Ne.symm n8c))
   refine QbS (Qag _) (.int .i64 ((n2:Nat):Int)) 18 #[.pointer (some ⟨gc16,0,none⟩)] kj kj (fun W=>by kernel_rfl) (fun W hR=>(QiH gc16 key n2 W hkl (Qaa (Qaa r16_16 (Qak _)) hR))) <| Qar (Qag _) (.pointer (some ⟨g13,97,none⟩)) kj kj (fun W=>by kernel_rfl) <| QaR (Qag _) (.int .i64 ((n2:Nat):Int)) kj kj (fun W hR=>(Qah 3 _ g13 97 31 _ (.int .i64 ((n2:Nat):Int)) _ (Qaa (Qaa r13_16 (Qak _)) hR) rfl kj (Qa3 [ints .u8 (List.replicate 32 0),ints .u8 (List.replicate 32 0),#[.bool true],ints .u8 (key)] [#[.int .i64 ((n2:Nat):Int)]] [] 97 (by rw [Qad,Qad,Qad,Qad]; simp only [qS,cat,((Qac _ _).trans (List.length_replicate (n:=32))),((Qac _ _).trans hkl)]; rfl) 0 _ rfl) kj)) ?_
   refine Qar (Qag _) (.bool false) kj kj (fun W=>(Qaf (u:=.bool ((((n2:Nat):Int) != ((n2:Nat):Int)))) kj (congrArg Value.bool (bne_self_eq_false _)))) <| Qar (Qag _) (.bool false) kj kj (fun W=>by kernel_rfl) <| Qar (Qag _) (.bool false) kj kj (fun W=>by kernel_rfl) <| Qar (Qag _) (.slice (some ⟨gk34,0,none⟩) (op.xs).length ck34) kj kj (fun W=>by kernel_rfl) <| Qar (Qag _) (.pointer (some ⟨g29,1,none⟩)) kj kj (fun W=>by kernel_rfl) ?_
   have r29_15:=(Qaa r29_14 e15)
   have r29_16:=(Puts.row p16 r29_15 (Qa2 q13_1 l29))
   refine QaR (Qag _) (.slice op.a op.xs.length op.c) kj kj (fun W hR=>(Qah 33 _ g29 1 35 _ (.slice op.a op.xs.length op.c) _ (Qaa (Qaa r29_16 (Qak _)) hR) rfl kj kj kj)) <| QbS (Qag _) (.bool true) 19 #[.slice (some ⟨gk34,0,none⟩) (op.xs).length ck34,.slice op.a op.xs.length op.c] kj kj (fun W=>by kernel_rfl) (fun W hR=>(QiN (op.xs) _ _ _ _ W (by omega) hobx (Qbn.ext (Qbn.ext (show Qbn 5 _ (op.xs) _ _ from ⟨gk34,ck34,rfl,(((QbY ho34 q14 (Qbe ho34 (Qau r16_12))).ext e15).puts p16 (Qbe ho34 (Qau r13_12)))⟩) (Qak _)) hR) (RdK.ext (OpAt.rd (OpAt.ext hop x16)) (Rely.Ext.trans (Qak _) hR)))) <| Qar (Qag _) (.bool false) kj kj (fun W=>by kernel_rfl) <| Qar (Qag _) (.bool false) kj kj (fun W=>by kernel_rfl) <| Qar (Qag _) (.bool false) kj kj (fun W=>by kernel_rfl) <| Qar (Qag _) (.slice a42_ ((xo).length) c42_) kj kj (fun W=>by kernel_rfl) <| Qar (Qag _) (.slice (some ⟨gk34,0,none⟩) (op.xs).length ck34) kj kj (fun W=>by kernel_rfl) <| QbN (hF _ fun W17 e17=>?_)
   simp only [List.nil_append,List.cons_append,List.take_succ_cons,List.take_zero,List.drop_succ_cons,List.drop_zero,finE,up]
   clear hF
   have x17:=Ext.tr x16 e17
   refine Qa7 (#[.slice a42_ ((xo).length) c42_,.slice (some ⟨gk34,0,none⟩) (op.xs).length ck34]) 33 2 127 rfl kj kj fun g52 W18 l52 e18 r52_18=>?_
   have x18:=Ext.tr x17 e18
   have b52:=qT x17.size l52
   refine Qat (fun v W'=>v=.bool true∧Below V1.heap.size W18 W') 20 #[.slice (some ⟨g52,0,none⟩) 2 2] 128 rfl kj kj ((QfN (l0:=xo) (l1:=op.xs) (qT (qT (qT (qT (qT (qT (qT (qT (qT (qR _) e10.size) (qE p11.2.2.2.1.symm)) e12.size) e13.size) q14.2.2.2.1) e15.size) (qE p16.2.2.2.1.symm)) e17.size) e18.size) r52_18 (OwnN.v (OwnN.base (qT (qT (qT (qT (qR _) e10.size) (qE p11.2.2.2.1.symm)) e12.size) e13.size) ((f47_16.ext e17).ext e18))) (OwnN.v (OwnN.base (qT (qT (qT (qR _) e10.size) (qE p11.2.2.2.1.symm)) e12.size) (((((QbY (Qbn.own ⟨gk34,ck34,rfl,ho34⟩) q14 (Qbe (Qbn.own ⟨gk34,ck34,rfl,ho34⟩) (Qau r16_12))).ext e15).puts p16 (Qbe (Qbn.own ⟨gk34,ck34,rfl,ho34⟩) (Qau r13_12))).ext e17).ext e18))) (by omega) (by omega) (Qdq (Qbn.own ⟨gk34,ck34,rfl,ho34⟩) hu42_ (qR _))).mono (by rintro e w' ⟨h1,h2⟩; exact ⟨_,h1,rfl,h2⟩)) fun v60 W19 h60=>?_
   obtain ⟨rfl,l19⟩:=h60
   have x19:=Ext.low x18 l19 xx1.size
   refine sg 2 kj <| sgN hK45 <| cond_false kj <| wp_skip <| hK27 _ _ <| Qai <| Qab (.int .i64 ((i+1:Nat):Int)) 131 rfl kj (Qaf (u:=.int .i64 (IntKind.i64.wrap (((i:Nat):Int)+1))) kj (congrArg (Value.int .i64) (i64n _ _ (by omega) (by omega)))) <| sg 1 kj <| Qao ?_
   have r16_17:=(Qaa r16_16 e17)
   have r16_18:=(Qaa r16_17 e18)
   have r16_19:=(Qbf l19 r16_18 (Qau q16_1))
   have r13_17:=(Qaa r13_16 e17)
   have r13_18:=(Qaa r13_17 e18)
   have r13_19:=(Qbf l19 r13_18 (Qau q13_1))
   repeat (first | with_reducible refine goX1 ?_ | with_reducible refine goX2 ?_ | with_reducible refine goX3 ?_)
   exact Qax ((i+1),n2) ⟨kj,kj,kj,kj,kj,trivial⟩ ⟨(by omega),hn2,r16_19,r13_19,(Qas.low (Qas.step (Qas.step (Qas.puts (Qas.step (Qas.but (Qas.step (Qas.step (Qas.puts (Qas.step q9 e10) p11 (.inr (qT (Qas.size q9) (qT (qR _) l29)))) e12) e13) q14 (.inl (by simp))) e15) p16 (.inl (by simp))) e17) e18) l19 (qT (Qas.size q9) (qR _))),x19⟩ (by omega)
  ·skip
   obtain ⟨xo,bad,n2,hxob,hxol,hn2,hP,hR_⟩:=QfV key num [cx] op.xs hkl hkb hnum hcx (by show 1≤1048576; decide) hobx (by omega)
   refine sgC fun K61 hK61=>sg 3 kj ?_
   have r31_13:=(Qaa r31_12 e13)
   have r16_10:=(Qaa q16_1 e10)
   have r16_11:=(Puts.row p11 r16_10 (Qae q16_1 l29))
   have r16_12:=(Qaa r16_11 e12)
   have r16_13:=(Qaa r16_12 e13)
   have r2_2:=(Qaa r2_1 e2)
   have r2_3:=(Qaa r2_2 e3)
   have r2_4:=(Qaa r2_3 e4)
   have r2_5:=(Puts.row p5 r2_4 (Qae r2_3 l13))
   have r2_6:=(Qaa r2_5 e6)
   have r2_7:=(ExtB.row q7 r2_6 (Qae r2_3 lc16))
   have r2_8:=(Puts.row p8 r2_7 (Qae r2_3 l13))
   have r2_9:=(Qas.row q9 r2_8 (QaC (Qae r2_3 lc16) (QaC (Qae r2_3 l13) QaS)))
   have r2_10:=(Qaa r2_9 e10)
   have r2_11:=(Puts.row p11 r2_10 (Qae r2_9 l29))
   have r2_12:=(Qaa r2_11 e12)
   have r2_13:=(Qaa r2_12 e13)
   have r1_2:=(Qaa r1_1 e2)
   have r1_3:=(Qaa r1_2 e3)
   have r1_4:=(Qaa r1_3 e4)
   have r1_5:=(Puts.row p5 r1_4 (Qae r1_3 l13))
   have r1_6:=(Qaa r1_5 e6)
   have r1_7:=(ExtB.row q7 r1_6 (Qae r1_3 lc16))
   have r1_8:=(Puts.row p8 r1_7 (Qae r1_3 l13))
   have r1_9:=(Qas.row q9 r1_8 (QaC (Qae r1_3 lc16) (QaC (Qae r1_3 l13) QaS)))
   have r1_10:=(Qaa r1_9 e10)
   have r1_11:=(Puts.row p11 r1_10 (Qae r1_9 l29))
   have r1_12:=(Qaa r1_11 e12)
   have r1_13:=(Qaa r1_12 e13)
   have r13_10:=(Qaa q13_1 e10)
   have r13_11:=(Puts.row p11 r13_10 (Qae q13_1 l29))
   have r13_12:=(Qaa r13_11 e12)
   have r13_13:=(Qaa r13_12 e13)
   refine Qat (fun v W'=>∃ u,v=.tuple #[u,errV bad]∧OwnN .u8 5 W13.heap.size xo u W'∧ExtB gc16 W13 W'∧W'.heap[gc16]? = some (.cells (cat [ints .u8 (key),#[.bool true],#[.int .i64 ((n2:Nat):Int)]]) 65)) 14 #[.pointer (some ⟨gc16,0,none⟩),.slice (some ⟨g31,0,none⟩) 1 1,.slice (some ⟨gk34,0,none⟩) (op.xs).length ck34] 88 rfl kj kj ((hP gc16 _ _ _ _ th tq _ r2_13 r1_13 r16_13 (QaI (xs:=[(cx)]) (n:=1) rfl r31_13 (Qau r31_13) (show 1≤maxLen from by decide)) (OwnN.rd (Qbn.own ⟨gk34,ck34,rfl,ho34⟩))).mono (by rintro e w' ⟨u,rfl,h1,h2,h3⟩; exact ⟨_,rfl,u,rfl,h1,h2,h3⟩)) fun v W14 h62=>?_
   obtain ⟨u62_,rfl,hu62_,q14,r16_14⟩:=h62
   have x14:=ExtB.up x13 q14 bc16
   obtain ⟨a62_,c62_,rfl,-⟩:=id (OwnN.rd hu62_)
   refine sg 5 kj <| sgN hK61 <| Qai ?_
   have r13_14:=(ExtB.row q14 r13_13 n8c)
   refine Qab (.agg (cat [ints .u8 (List.replicate 32 0),ints .u8 (List.replicate 32 0),#[.bool true],ints .u8 (key),#[.int .i64 ((num:Nat):Int)]])) 92 rfl kj (Qap 31 _ g13 31 _ _ r13_14 rfl kj kj (isz (n:=98) kj (by rw [Qad,Qad,Qad,Qad,Qad]; simp only [qS,cat,((Qac _ _).trans (List.length_replicate (n:=32))),((Qac _ _).trans hkl)]; rfl))) ?_
   refine sg 2 kj ?_
   have r29_14:=(ExtB.row q14 r29_13 (Qa2 q16_1 l29))
   refine Qab (.slice op.a op.xs.length op.c) 95 rfl kj (Qah 33 _ g29 1 35 _ (.slice op.a op.xs.length op.c) _ r29_14 rfl kj kj kj) ?_
   have r31_14:=(ExtB.row q14 r31_13 (Qa2 r16_11 l31))
   refine Qat (fun v W'=>(fun v W=>∃ u,v=.tuple #[u,.agg (cat [ints .u8 (List.replicate 32 0),ints .u8 (List.replicate 32 0),#[.bool true],ints .u8 (key),#[.int .i64 ((n2:Nat):Int)]]),.int .i64 bad]∧OwnN .u8 5 W14.heap.size xo u W) v W'∧Ext W14 W') 15 #[.agg (cat [ints .u8 (List.replicate 32 0),ints .u8 (List.replicate 32 0),#[.bool true],ints .u8 (key),#[.int .i64 ((num:Nat):Int)]]),.slice (some ⟨g31,0,none⟩) 1 1,.slice op.a op.xs.length op.c] 96 rfl kj kj ((hR_ (List.replicate 32 0) (List.replicate 32 0) _ _ _ _ _ (List.length_replicate (n:=32)) (List.length_replicate (n:=32)) (QaI (xs:=[(cx)]) (n:=1) rfl r31_14 (Qau r31_14) (show 1≤maxLen from by decide)) (OpAt.rd (OpAt.ext hop x14))).mono (by rintro e w' ⟨v,rfl,e1,hv⟩; exact ⟨v,rfl,hv,e1⟩)) fun vv63 W15 hh63=>?_
   obtain ⟨hv63,e15⟩:=hh63
   have x15:=Ext.tr x14 e15
   obtain ⟨u64_,rfl,hu64_⟩:=hv63
   obtain ⟨a64_,c64_,rfl,-⟩:=id (OwnN.rd hu64_)
   refine sg 5 kj ?_
   have r13_15:=(Qaa r13_14 e15)
   refine Qal g13 _ (cat [ints .u8 (List.replicate 32 0),ints .u8 (List.replicate 32 0),#[.bool true],ints .u8 (key),#[.int .i64 ((n2:Nat):Int)]]) 31 r13_15 rfl kj (Qan 31 _ _ g13 31 _ _ r13_15 rfl kj kj (isz (n:=98) kj (by rw [Qad,Qad,Qad,Qad,Qad]; simp only [qS,cat,((Qac _ _).trans (List.length_replicate (n:=32))),((Qac _ _).trans hkl)]; rfl)) (eqsz (n:=98) (by rw [Qad,Qad,Qad,Qad,Qad]; simp only [qS,cat,((Qac _ _).trans (List.length_replicate (n:=32))),((Qac _ _).trans hkl)]; rfl) (by rw [Qad,Qad,Qad,Qad,Qad]; simp only [qS,cat,((Qac _ _).trans (List.length_replicate (n:=32))),((Qac _ _).trans hkl)]; rfl)) (Qcl _ (by intro a ha; simp only [List.mem_cons,List.not_mem_nil,or_false] at ha; rcases ha with rfl | rfl | rfl | rfl | rfl; exact (Qav _ _); exact (Qav _ _); exact (QaZ _ rfl); exact (Qav _ _); exact (QaZ _ rfl)))) fun W16 p16 r13_16=>?_
   have x16:=Puts.ext p16 x15 b13
   refine sg 1 kj <| Qao <| hK38 _ _ <| wp_seq_k fun K65 hK65=>QaD 27 [⟨none,[(16,none)]⟩,⟨none,[(100,some 0)]⟩,⟨none,[(13,none)]⟩,⟨none,[(101,some 1),(102,some 2)]⟩,⟨none,[(103,some 3)]⟩,⟨some (104,false),[(14,none),(104,some 4)]⟩,⟨some (104,false),[(15,none),(104,some 4)]⟩,⟨some (104,false),[(105,some 5),(106,some 6),(104,some 4)]⟩,⟨some (104,false),[(107,some 7),(104,some 4)]⟩,⟨none,[(104,some 4),(108,some 8)]⟩,⟨none,[(109,some 9)]⟩,⟨some (110,false),[(7,none),(110,some 10)]⟩,⟨some (110,false),[(111,some 11),(110,some 10)]⟩,⟨some (110,false),[(8,none),(110,some 10)]⟩,⟨some (110,false),[(113,some 13),(110,some 10)]⟩,⟨some (110,false),[(112,some 12),(114,some 14),(110,some 10)]⟩,⟨none,[(110,some 10),(115,some 15)]⟩,⟨none,[(116,some 16)]⟩,⟨some (117,false),[(12,none),(117,some 17)]⟩,⟨some (117,false),[(10,none),(117,some 17)]⟩,⟨some (117,false),[(119,some 19),(117,some 17)]⟩,⟨some (117,false),[(118,some 18),(120,some 20),(117,some 17)]⟩,⟨some (117,false),[(121,some 21),(117,some 17)]⟩,⟨none,[(117,some 17),(122,some 22)]⟩,⟨none,[(123,some 23)]⟩,⟨some (124,false),[(14,none),(124,some 24)]⟩,⟨some (124,false),[(12,none),(124,some 24)]⟩] kj kj fun F hF=>Qar (Qag _) (errV bad) kj kj (fun W=>by kernel_rfl) <| QbS (Qag _) (.int .i64 bad) 16 #[errV bad] kj kj (fun W=>by kernel_rfl) (fun W hR=>(numV bad) W) <| Qar (Qag _) (.int .i64 bad) kj kj (fun W=>by kernel_rfl) <| Qar (Qag _) (.bool false) kj kj (fun W=>(Qaf (u:=.bool ((bad != bad))) kj (congrArg Value.bool (bne_self_eq_false _)))) <| Qar (Qag _) (.bool false) kj kj (fun W=>by kernel_rfl) ?_
   refine Qar (Qag _) (.slice a62_ ((xo).length) c62_) kj kj (fun W=>by kernel_rfl) <| Qar (Qag _) (.slice a64_ ((xo).length) c64_) kj kj (fun W=>by kernel_rfl) ?_
   have f67_16:=((hu62_.ext e15).puts p16 (Qbe hu62_ (Qau r13_13)))
   refine QbS (Qag _) (.bool true) 17 #[.slice a62_ ((xo).length) c62_,.slice a64_ ((xo).length) c64_] kj kj (fun W=>by kernel_rfl) (fun W hR=>(Qi8 _ _ _ _ W rfl (RdK.bytes (RdK.ext (OwnN.rd f67_16) (Rely.Ext.trans (Qak _) hR)) hxob) (RdK.bytes (RdK.ext (OwnN.rd (hu64_.puts p16 (Qbe hu64_ (Qau r13_14)))) (Rely.Ext.trans (Qak _) hR)) hxob))) <| Qar (Qag _) (.bool false) kj kj (fun W=>by kernel_rfl) <| Qar (Qag _) (.bool false) kj kj (fun W=>by kernel_rfl) <| Qar (Qag _) (.bool false) kj kj (fun W=>by kernel_rfl) <| Qar (Qag _) (.pointer (some ⟨gc16,0,none⟩)) kj kj (fun W=>by kernel_rfl) ?_
   have r16_15:=(Qaa r16_14 e15)
   have r16_16:=(Puts.row p16 r16_15 (Ne.symm n8c))
   refine QbS (Qag _) (.int .i64 ((n2:Nat):Int)) 18 #[.pointer (some ⟨gc16,0,none⟩)] kj kj (fun W=>by kernel_rfl) (fun W hR=>(QiH gc16 key n2 W hkl (Qaa (Qaa r16_16 (Qak _)) hR))) <| Qar (Qag _) (.pointer (some ⟨g13,97,none⟩)) kj kj (fun W=>by kernel_rfl) <| QaR (Qag _) (.int .i64 ((n2:Nat):Int)) kj kj (fun W hR=>(Qah 3 _ g13 97 31 _ (.int .i64 ((n2:Nat):Int)) _ (Qaa (Qaa r13_16 (Qak _)) hR) rfl kj (Qa3 [ints .u8 (List.replicate 32 0),ints .u8 (List.replicate 32 0),#[.bool true],ints .u8 (key)] [#[.int .i64 ((n2:Nat):Int)]] [] 97 (by rw [Qad,Qad,Qad,Qad]; simp only [qS,cat,((Qac _ _).trans (List.length_replicate (n:=32))),((Qac _ _).trans hkl)]; rfl) 0 _ rfl) kj)) ?_
   refine Qar (Qag _) (.bool false) kj kj (fun W=>(Qaf (u:=.bool ((((n2:Nat):Int) != ((n2:Nat):Int)))) kj (congrArg Value.bool (bne_self_eq_false _)))) <| Qar (Qag _) (.bool false) kj kj (fun W=>by kernel_rfl) <| Qar (Qag _) (.bool false) kj kj (fun W=>by kernel_rfl) <| Qar (Qag _) (.slice (some ⟨gk34,0,none⟩) (op.xs).length ck34) kj kj (fun W=>by kernel_rfl) <| Qar (Qag _) (.pointer (some ⟨g29,1,none⟩)) kj kj (fun W=>by kernel_rfl) ?_
   have r29_15:=(Qaa r29_14 e15)
   have r29_16:=(Puts.row p16 r29_15 (Qa2 q13_1 l29))
   refine QaR (Qag _) (.slice op.a op.xs.length op.c) kj kj (fun W hR=>(Qah 33 _ g29 1 35 _ (.slice op.a op.xs.length op.c) _ (Qaa (Qaa r29_16 (Qak _)) hR) rfl kj kj kj)) <| QbS (Qag _) (.bool true) 19 #[.slice (some ⟨gk34,0,none⟩) (op.xs).length ck34,.slice op.a op.xs.length op.c] kj kj (fun W=>by kernel_rfl) (fun W hR=>(QiN (op.xs) _ _ _ _ W (by omega) hobx (Qbn.ext (Qbn.ext (show Qbn 5 _ (op.xs) _ _ from ⟨gk34,ck34,rfl,(((QbY ho34 q14 (Qbe ho34 (Qau r16_12))).ext e15).puts p16 (Qbe ho34 (Qau r13_12)))⟩) (Qak _)) hR) (RdK.ext (OpAt.rd (OpAt.ext hop x16)) (Rely.Ext.trans (Qak _) hR)))) <| Qar (Qag _) (.bool false) kj kj (fun W=>by kernel_rfl) <| Qar (Qag _) (.bool false) kj kj (fun W=>by kernel_rfl) <| Qar (Qag _) (.bool false) kj kj (fun W=>by kernel_rfl) <| Qar (Qag _) (.slice a62_ ((xo).length) c62_) kj kj (fun W=>by kernel_rfl) <| Qar (Qag _) (.slice (some ⟨gk34,0,none⟩) (op.xs).length ck34) kj kj (fun W=>by kernel_rfl) <| QbN (hF _ fun W17 e17=>?_)
   simp only [List.nil_append,List.cons_append,List.take_succ_cons,List.take_zero,List.drop_succ_cons,List.drop_zero,finE,up]
   clear hF
   have x17:=Ext.tr x16 e17
   refine Qa7 (#[.slice a62_ ((xo).length) c62_,.slice (some ⟨gk34,0,none⟩) (op.xs).length ck34]) 33 2 127 rfl kj kj fun g72 W18 l72 e18 r72_18=>?_
   have x18:=Ext.tr x17 e18
   have b72:=qT x17.size l72
   refine Qat (fun v W'=>v=.bool true∧Below V1.heap.size W18 W') 20 #[.slice (some ⟨g72,0,none⟩) 2 2] 128 rfl kj kj ((QfN (l0:=xo) (l1:=op.xs) (qT (qT (qT (qT (qT (qT (qT (qT (qT (qR _) e10.size) (qE p11.2.2.2.1.symm)) e12.size) e13.size) q14.2.2.2.1) e15.size) (qE p16.2.2.2.1.symm)) e17.size) e18.size) r72_18 (OwnN.v (OwnN.base (qT (qT (qT (qT (qR _) e10.size) (qE p11.2.2.2.1.symm)) e12.size) e13.size) ((f67_16.ext e17).ext e18))) (OwnN.v (OwnN.base (qT (qT (qT (qR _) e10.size) (qE p11.2.2.2.1.symm)) e12.size) (((((QbY (Qbn.own ⟨gk34,ck34,rfl,ho34⟩) q14 (Qbe (Qbn.own ⟨gk34,ck34,rfl,ho34⟩) (Qau r16_12))).ext e15).puts p16 (Qbe (Qbn.own ⟨gk34,ck34,rfl,ho34⟩) (Qau r13_12))).ext e17).ext e18))) (by omega) (by omega) (Qdq (Qbn.own ⟨gk34,ck34,rfl,ho34⟩) hu62_ (qR _))).mono (by rintro e w' ⟨h1,h2⟩; exact ⟨_,h1,rfl,h2⟩)) fun v80 W19 h80=>?_
   obtain ⟨rfl,l19⟩:=h80
   have x19:=Ext.low x18 l19 xx1.size
   refine sg 2 kj <| sgN hK65 <| cond_false kj <| wp_skip <| hK27 _ _ <| Qai <| Qab (.int .i64 ((i+1:Nat):Int)) 131 rfl kj (Qaf (u:=.int .i64 (IntKind.i64.wrap (((i:Nat):Int)+1))) kj (congrArg (Value.int .i64) (i64n _ _ (by omega) (by omega)))) <| sg 1 kj <| Qao ?_
   have r16_17:=(Qaa r16_16 e17)
   have r16_18:=(Qaa r16_17 e18)
   have r16_19:=(Qbf l19 r16_18 (Qau q16_1))
   have r13_17:=(Qaa r13_16 e17)
   have r13_18:=(Qaa r13_17 e18)
   have r13_19:=(Qbf l19 r13_18 (Qau q13_1))
   repeat (first | with_reducible refine goX1 ?_ | with_reducible refine goX2 ?_ | with_reducible refine goX3 ?_)
   exact Qax ((i+1),n2) ⟨kj,kj,kj,kj,kj,trivial⟩ ⟨(by omega),hn2,r16_19,r13_19,(Qas.low (Qas.step (Qas.step (Qas.puts (Qas.step (Qas.but (Qas.step (Qas.step (Qas.puts (Qas.step q9 e10) p11 (.inr (qT (Qas.size q9) (qT (qR _) l29)))) e12) e13) q14 (.inl (by simp))) e15) p16 (.inl (by simp))) e17) e18) l19 (qT (Qas.size q9) (qR _))),x19⟩ (by omega)
 ·skip
  have heq:i=len:=by have:=of_decide_eq_false c26; omega
  refine wp_exit <| hK22 _ _ <| sgB kj <| wp_ret ?_
  repeat (first | with_reducible refine goR1 ?_ | with_reducible refine goR2 ?_)
  exact (show bodyPost _ _ _ .ret _ _ from ret1 (.bool true) rfl (Qa0 kj) ⟨rfl,xx1⟩)
set_option maxRecDepth 100000 in
theorem Qmd (key : List Int) (number:Int) (len cap gT oT:Nat) (ad:Option Addr) (ops:Nat→OpV)  (th tq tsc tsq:TypeId) (w:World) (had:0<len→ad=some ⟨gT,oT,none⟩) (hops:∀ i,i<len→OpAt w gT oT i (ops i)) (hh:w.heap[2]? = some (.cells (ints .u32 [1634760805,857760878,2036477234,1797285236]) th)) (hq:w.heap[3]? = some (.cells (ints .i64 [0,4,8,12,1,5,9,13,2,6,10,14,3,7,11,15,0,5,10,15,1,6,11,12,2,7,8,13,3,4,9,14]) tq)) (hsc:w.heap[1]? = some (.cells (ints .u64 Qb4) tsc)) (hsq:w.heap[0]? = some (.cells (ints .u64 QaV) tsq)) (hkl:key.length=32) (hkb:Qaj key) (hall:∀ i,i<len→i≤60∧(ops i).xs.length≤500) (hn:number<0):Calls Tryd.prog 3 #[.agg (ints .u8 key),.int .i64 number,.slice ad len cap] w (Ret w (.bool true)):=by
 refine enter 132 [(0,.agg (ints .u8 (key))),(1,.int .i64 number),(2,.slice ad len cap)] Tryd.func3 rfl rfl kj rfl <| sgC fun K5 hK5=>Qaq (ints .u8 (key)) 23 3 rfl kj kj fun g6 W1 l6 e1 r6_1=>?_
 have b6:=qT (Rely.Ext.refl w).size l6
 refine sg 1 kj <| sgN hK5 <| wp_seq_k fun K7 hK7=>sgC fun K8 hK8=>?_
 have r2_1:=(Qaa hh e1)
 have r1_1:=(Qaa hq e1)
 refine Qa6 (.bool true) 6 #[] 17 rfl kj kj (Qgq th tq tsc tsq _ r2_1 r1_1 (Qaa hsc e1) (Qaa hsq e1)) fun W2 e2=>?_
 have x2:=Ext.tr (Ext.tr (Rely.Ext.refl w) e1) e2
 refine sg 1 kj <| sgN hK8 <| cond_false kj <| wp_skip <| hK7 _ _ <| wp_seq_k fun K9 hK9=>sgC fun K10 hK10=>sg 1 kj <| Qa6 (.bool false) 7 #[.slice ad len cap] 20 rfl kj kj (Qh9 len cap gT oT ad ops _ had (fun i hi=>OpAt.ext (hops i hi) x2) hall) fun W3 e3=>?_
 have x3:=Ext.tr x2 e3
 refine sgN hK10 <| cond_false kj <| wp_skip <| hK9 _ _ <| wp_seq_k fun K11 hK11=>QaD 6 [⟨none,[(3,none)]⟩,⟨none,[(21,some 0)]⟩,⟨none,[(3,none)]⟩,⟨none,[(23,some 2)]⟩,⟨none,[]⟩,⟨none,[(22,some 1)]⟩] kj kj fun F hF=>?_
 have r6_3:=(Qaa (Qaa r6_1 e2) e3)
 refine QaR (Qag _) (.agg (ints .u8 (key))) kj kj (fun W hR=>(Qap 23 _ g6 23 _ _ (Qaa (Qaa r6_3 (Qak _)) hR) rfl kj kj (isz (n:=32) kj ((Qac _ _).trans hkl)))) <| Qcv (Qag _) (QeU W3.heap.size key) (Qcz _ _) 8 #[.agg (ints .u8 (key))] kj kj (fun W=>by kernel_rfl) (fun W hR=>(Qj0 W3.heap.size key _ hkl (Rely.Ext.trans (Qak _) hR).size)) <| QaR (Qag _) (.agg (ints .u8 (key))) kj kj (fun W hR=>(Qap 23 _ g6 23 _ _ (Qaa (Qaa r6_3 (Qak _)) hR) rfl kj kj (isz (n:=32) kj ((Qac _ _).trans hkl)))) <| Qar (Qag _) (.agg (cat [ints .u8 (List.replicate 32 0),ints .u8 (List.replicate 32 0),#[.bool true],ints .u8 (key),#[.int .i64 0]])) kj kj (fun W=>(Qc7 31 _ (.agg (cat [ints .u8 (List.replicate 32 0),ints .u8 (List.replicate 32 0),#[.bool false],ints .u8 (List.replicate 32 0),#[.int .i64 0]])) #[(0,32),(32,32),(64,1),(65,32),(97,1)] 64 [ints .u8 (List.replicate 32 0),ints .u8 (List.replicate 32 0)] (cat [#[.bool false],ints .u8 (List.replicate 32 0),#[.int .i64 0]]) [(2,1,.bool true,#[.bool true]),(3,32,.agg (ints .u8 (key)),ints .u8 (key))] [#[.int .i64 0]] rfl kj (by rw [Qad,Qad]; simp only [qS,cat,((Qac _ _).trans (List.length_replicate (n:=32)))]; rfl) ⟨kj,rfl,kj,kj,rfl,((Qac _ _).trans hkl),trivial⟩ kj (Nat.le_of_ble_eq_true kj) kj kj kj kj)) ?_
 refine Qhd (Qag _) (cat [ints .u8 (List.replicate 32 0),ints .u8 (List.replicate 32 0),#[.bool false],ints .u8 (List.replicate 32 0),#[.int .i64 0]]) 31 (NewP.stable _ _ _) kj kj (fun W=>by kernel_rfl) <| Qbr (Qag _) (QeU W3.heap.size key) (Qcz _ _) (fun ρ W hR hh=>⟨ρ 22,W,by kernel_rfl,Rely.Ext.refl _,(show (QeU W3.heap.size key) (ρ 22) W from hh.1)⟩) <| QbN (hF _ fun W4 e4=>?_)
 simp only [List.nil_append,List.cons_append,List.take_succ_cons,List.take_zero,List.drop_succ_cons,List.drop_zero,finE,up]
 intro vv12 hv12 vv13 hv13 vv14 hv14
 clear hF
 obtain ⟨gc15,rfl,lc15,rc15⟩:=hv12
 have bc15:=qT x3.size lc15
 obtain ⟨g13,rfl,l13,r13_4⟩:=hv13
 have b13:=qT x3.size l13
 obtain ⟨gc16,rfl,lc16,rc16⟩:=hv14
 have bc16:=qT x3.size lc16
 have n8c:g13≠gc16:=Qj2 r13_4 rc16 (by decide)
 refine Qal g13 _ (cat [ints .u8 (List.replicate 32 0),ints .u8 (List.replicate 32 0),#[.bool true],ints .u8 (key),#[.int .i64 0]]) 31 r13_4 rfl kj (Qan 31 _ _ g13 31 _ _ r13_4 rfl kj kj (isz (n:=98) kj (by rw [Qad,Qad,Qad,Qad,Qad]; simp only [qS,cat,((Qac _ _).trans (List.length_replicate (n:=32))),((Qac _ _).trans hkl)]; rfl)) (eqsz (n:=98) (by rw [Qad,Qad,Qad,Qad,Qad]; simp only [qS,cat,((Qac _ _).trans (List.length_replicate (n:=32)))]; rfl) (by rw [Qad,Qad,Qad,Qad,Qad]; simp only [qS,cat,((Qac _ _).trans (List.length_replicate (n:=32))),((Qac _ _).trans hkl)]; rfl)) (Qcl _ (by intro a ha; simp only [List.mem_cons,List.not_mem_nil,or_false] at ha; rcases ha with rfl | rfl | rfl | rfl | rfl; exact (Qav _ _); exact (Qav _ _); exact (QaZ _ rfl); exact (Qav _ _); exact (QaZ _ rfl)))) fun W5 p5 r13_5=>?_
 refine sgN hK11 <| wp_seq_k fun K17 hK17=>sgC fun K18 hK18=>sg 4 kj ?_
 have r16_5:=(Puts.row p5 rc16 (Ne.symm n8c))
 refine Qa6 (.bool true) 9 #[.pointer (some ⟨gc16,0,none⟩)] 29 rfl kj kj (Qmh gc16 key 0 _ hkl r16_5) fun W6 e6=>sg 5 kj ?_
 have r16_6:=(Qaa r16_5 e6)
 refine Qa6 (.bool false) 10 #[.pointer (some ⟨gc16,0,none⟩),.int .i64 number] 35 rfl kj kj (QlU gc16 key 0 number _ hkl r16_6 (by omega)) fun W7 e7=>sg 1 kj <| Qab (.bool false) 37 rfl kj (Qaf (u:=.bool (decide (number≥0))) kj (congrArg Value.bool (decide_eq_false (by omega)))) <| sg 6 kj <| sgN hK18 <| cond_false kj <| wp_skip <| hK17 _ _ <| wp_seq_k fun K19 hK19=>sgC fun K20 hK20=>?_
 refine sg 1 kj <| Qab (.bool false) 45 rfl kj (Qaf (u:=.bool (decide (number≥0))) kj (congrArg Value.bool (decide_eq_false (by omega)))) <| sg 4 kj <| sgN hK20 <| cond_false kj <| wp_skip <| hK19 _ _ <| wp_seq_k fun K21 hK21=>sgB kj <| wp_block ?_
 refine Qa5 (fun (s1:Nat×Nat)=>[(7,.pointer (some ⟨gc16,0,none⟩)),(8,.pointer (some ⟨g13,0,none⟩)),(52,.slice ad len cap),(53,.int .i64 ((len:Nat):Int)),(54,.int .i64 ((s1.1:Nat):Int))]) (fun (s1:Nat×Nat) W=>(s1.1≤len)∧(s1.2≤4294967295)∧(W.heap[gc16]? = some (.cells (cat [ints .u8 (key),#[.bool true],#[.int .i64 ((s1.2:Nat):Int)]]) 65))∧(W.heap[g13]? = some (.cells (cat [ints .u8 (List.replicate 32 0),ints .u8 (List.replicate 32 0),#[.bool true],ints .u8 (key),#[.int .i64 ((s1.2:Nat):Int)]]) 31))∧(Qas [gc16,g13] W7 W)∧(Ext w W)) (fun (s1:Nat×Nat)=>len-s1.1) (0,0) ⟨kj,kj,kj,kj,kj,trivial⟩ ⟨(Nat.zero_le _),(by decide),(Qaa r16_6 e7),(Qaa (Qaa r13_5 e6) e7),(Qas.refl [gc16,g13] W7),(Ext.tr (Ext.tr (Puts.ext p5 (Ext.tr x3 e4) b13) e6) e7)⟩ fun s1 X1 V1 hI1=>?_
 obtain ⟨i,num⟩:=s1
 obtain ⟨hi,hnum,q16_1,q13_1,kk1,xx1⟩:=hI1
 replace hi:i≤len:=hi
 replace hnum:num≤4294967295:=hnum
 replace q16_1:V1.heap[gc16]? = some (.cells (cat [ints .u8 (key),#[.bool true],#[.int .i64 ((num:Nat):Int)]]) 65):=q16_1
 replace q13_1:V1.heap[g13]? = some (.cells (cat [ints .u8 (List.replicate 32 0),ints .u8 (List.replicate 32 0),#[.bool true],ints .u8 (key),#[.int .i64 ((num:Nat):Int)]]) 31):=q13_1
 replace kk1:Qas [gc16,g13] W7 V1:=kk1
 replace xx1:Ext w V1:=xx1
 have q8:=kk1
 refine sgB kj <| wp_seq_k fun K24 hK24=>Qay (t:=decide (((i:Nat):Int)<((len:Nat):Int))) kj (fun c25=>?_) (fun c25=>?_)
 ·skip
  have hlt:i<len:=by have:=of_decide_eq_true c25; omega
  obtain ⟨op,hopE⟩:∃ z,z=ops i:=⟨_,rfl⟩
  have hop:OpAt w gT oT i op:=hopE▸hops i hlt
  have hox:op.xs.length≤500:=hopE▸(hall i hlt).2
  have hi60:=(hall i hlt).1
  have hobx:=OpAt.bytes hop
  obtain ⟨cx,ecx⟩:∃ z,z=IntKind.u8.wrap op.n:=⟨_,rfl⟩
  have hcx:Qaj [cx]:=ecx▸Qgh _
  refine wp_skip <| hK24 _ _ <| wp_seq_k fun K26 hK26=>wp_block <| sgC fun K27 hK27=>Qab (.pointer (some ⟨gT,oT+i*3,none⟩)) 56 rfl kj (QdR 24 _ _ .i64 i gT oT len cap 35 3 ad (had (by omega)) rfl kj kj kj kj hlt) <| Qab (.agg (cat [#[.int .i64 op.kind],#[.slice op.a op.xs.length op.c],#[.int .i64 op.n]])) 57 rfl kj (Qd2 35 _ gT oT i op (OpAt.ext hop xx1) rfl kj kj kj) <| Qaq (cat [#[.int .i64 0],#[.slice none 0 0],#[.int .i64 0]]) 35 10 rfl kj kj fun g28 W9 l28 e9 r28_9=>Qal g28 _ (cat [#[.int .i64 op.kind],#[.slice op.a op.xs.length op.c],#[.int .i64 op.n]]) 35 r28_9 rfl kj (Qan 35 _ _ g28 35 _ _ r28_9 rfl kj kj (isz (n:=3) kj kj) (eqsz (n:=3) kj kj) kj) fun W10 p10 r28_10=>?_
  have x10:=Puts.ext p10 (Ext.tr xx1 e9) (qT xx1.size l28)
  refine sgN hK27 <| sgC fun K29 hK29=>sg 1 kj <| Qab (.int .i64 op.n) 59 rfl kj (Qah 3 _ g28 2 35 _ (.int .i64 op.n) _ r28_10 rfl kj kj kj) <| Qab (.int .u8 (cx)) 60 rfl kj (Qaf (u:=.int .u8 (IntKind.u8.wrap (op.n))) kj (congrArg (Value.int .u8) ecx.symm)) <| Qa7 (ints .u8 ([(cx)])) 5 1 61 rfl kj kj fun g30 W11 l30 e11 r30_11=>?_
  have x11:=Ext.tr x10 e11
  have b30:=qT x10.size l30
  refine sg 1 kj <| sgN hK29 <| sgC fun K31 hK31=>sg 1 kj ?_
  have r28_11:=(Qaa r28_10 e11)
  refine Qab (.slice op.a op.xs.length op.c) 63 rfl kj (Qah 33 _ g28 1 35 _ (.slice op.a op.xs.length op.c) _ r28_11 rfl kj kj kj) <| Qat (fun v W'=>(Qbn 5 W11.heap.size (op.xs)) v W'∧Ext W11 W') 11 #[.slice op.a op.xs.length op.c] 64 rfl kj kj ((Qmn (op.xs) _ _ _ (by omega) (OpAt.rd (OpAt.ext hop x11))).mono (by rintro e w' ⟨v,rfl,e1,hv⟩; exact ⟨v,rfl,hv,e1⟩)) fun vv32 W12 hh32=>?_
  obtain ⟨hv32,e12⟩:=hh32
  have x12:=Ext.tr x11 e12
  obtain ⟨gk33,ck33,rfl,ho33⟩:=hv32
  refine sg 1 kj <| sgN hK31 <| sgB kj <| sgB kj <| sgB kj <| wp_seq_k fun K37 hK37=>sgC fun K38 hK38=>sg 1 kj ?_
  have r28_12:=(Qaa r28_11 e12)
  refine Qab (.int .i64 op.kind) 66 rfl kj (Qah 3 _ g28 0 35 _ (.int .i64 op.kind) _ r28_12 rfl kj kj kj) <| sg 1 kj <| sgN hK38 <| Qay (t:=(op.kind==2)) kj (fun c39=>?_) (fun c39=>?_)
  ·skip
   obtain ⟨xo,bad,n2,hxob,hxol,hn2,hP,hR_⟩:=Qgm key num [cx] op.xs hkl hkb hnum hcx (by show 1≤1048576; decide) hobx (by omega)
   refine sgC fun K40 hK40=>sg 3 kj ?_
   have r30_12:=(Qaa r30_11 e12)
   have r16_9:=(Qaa q16_1 e9)
   have r16_10:=(Puts.row p10 r16_9 (Qae q16_1 l28))
   have r16_11:=(Qaa r16_10 e11)
   have r16_12:=(Qaa r16_11 e12)
   have r2_2:=(Qaa r2_1 e2)
   have r2_3:=(Qaa r2_2 e3)
   have r2_4:=(Qaa r2_3 e4)
   have r2_5:=(Puts.row p5 r2_4 (Qae r2_3 l13))
   have r2_6:=(Qaa r2_5 e6)
   have r2_7:=(Qaa r2_6 e7)
   have r2_8:=(Qas.row q8 r2_7 (QaC (Qae r2_3 lc16) (QaC (Qae r2_3 l13) QaS)))
   have r2_9:=(Qaa r2_8 e9)
   have r2_10:=(Puts.row p10 r2_9 (Qae r2_8 l28))
   have r2_11:=(Qaa r2_10 e11)
   have r2_12:=(Qaa r2_11 e12)
   have r1_2:=(Qaa r1_1 e2)
   have r1_3:=(Qaa r1_2 e3)
   have r1_4:=(Qaa r1_3 e4)
   have r1_5:=(Puts.row p5 r1_4 (Qae r1_3 l13))
   have r1_6:=(Qaa r1_5 e6)
   have r1_7:=(Qaa r1_6 e7)
   have r1_8:=(Qas.row q8 r1_7 (QaC (Qae r1_3 lc16) (QaC (Qae r1_3 l13) QaS)))
   have r1_9:=(Qaa r1_8 e9)
   have r1_10:=(Puts.row p10 r1_9 (Qae r1_8 l28))
   have r1_11:=(Qaa r1_10 e11)
   have r1_12:=(Qaa r1_11 e12)
   have r13_9:=(Qaa q13_1 e9)
   have r13_10:=(Puts.row p10 r13_9 (Qae q13_1 l28))
   have r13_11:=(Qaa r13_10 e11)
   have r13_12:=(Qaa r13_11 e12)
   refine Qat (fun v W'=>∃ u,v=.tuple #[u,errV bad]∧OwnN .u8 5 W12.heap.size xo u W'∧ExtB gc16 W12 W'∧W'.heap[gc16]? = some (.cells (cat [ints .u8 (key),#[.bool true],#[.int .i64 ((n2:Nat):Int)]]) 65)) 12 #[.pointer (some ⟨gc16,0,none⟩),.slice (some ⟨g30,0,none⟩) 1 1,.slice (some ⟨gk33,0,none⟩) (op.xs).length ck33] 72 rfl kj kj ((hP gc16 _ _ _ _ th tq _ r2_12 r1_12 r16_12 (QaI (xs:=[(cx)]) (n:=1) rfl r30_12 (Qau r30_12) (show 1≤maxLen from by decide)) (OwnN.rd (Qbn.own ⟨gk33,ck33,rfl,ho33⟩))).mono (by rintro e w' ⟨u,rfl,h1,h2,h3⟩; exact ⟨_,rfl,u,rfl,h1,h2,h3⟩)) fun v W13 h41=>?_
   obtain ⟨u41_,rfl,hu41_,q13,r16_13⟩:=h41
   have x13:=ExtB.up x12 q13 bc16
   obtain ⟨a41_,c41_,rfl,-⟩:=id (OwnN.rd hu41_)
   refine sg 5 kj <| sgN hK40 <| Qai ?_
   have r13_13:=(ExtB.row q13 r13_12 n8c)
   refine Qab (.agg (cat [ints .u8 (List.replicate 32 0),ints .u8 (List.replicate 32 0),#[.bool true],ints .u8 (key),#[.int .i64 ((num:Nat):Int)]])) 76 rfl kj (Qap 31 _ g13 31 _ _ r13_13 rfl kj kj (isz (n:=98) kj (by rw [Qad,Qad,Qad,Qad,Qad]; simp only [qS,cat,((Qac _ _).trans (List.length_replicate (n:=32))),((Qac _ _).trans hkl)]; rfl))) ?_
   refine sg 2 kj ?_
   have r28_13:=(ExtB.row q13 r28_12 (Qa2 q16_1 l28))
   refine Qab (.slice op.a op.xs.length op.c) 79 rfl kj (Qah 33 _ g28 1 35 _ (.slice op.a op.xs.length op.c) _ r28_13 rfl kj kj kj) ?_
   have r30_13:=(ExtB.row q13 r30_12 (Qa2 r16_10 l30))
   refine Qat (fun v W'=>(fun v W=>∃ u,v=.tuple #[u,.agg (cat [ints .u8 (List.replicate 32 0),ints .u8 (List.replicate 32 0),#[.bool true],ints .u8 (key),#[.int .i64 ((n2:Nat):Int)]]),.int .i64 bad]∧OwnN .u8 5 W13.heap.size xo u W) v W'∧Ext W13 W') 13 #[.agg (cat [ints .u8 (List.replicate 32 0),ints .u8 (List.replicate 32 0),#[.bool true],ints .u8 (key),#[.int .i64 ((num:Nat):Int)]]),.slice (some ⟨g30,0,none⟩) 1 1,.slice op.a op.xs.length op.c] 80 rfl kj kj ((hR_ (List.replicate 32 0) (List.replicate 32 0) _ _ _ _ _ (List.length_replicate (n:=32)) (List.length_replicate (n:=32)) (QaI (xs:=[(cx)]) (n:=1) rfl r30_13 (Qau r30_13) (show 1≤maxLen from by decide)) (OpAt.rd (OpAt.ext hop x13))).mono (by rintro e w' ⟨v,rfl,e1,hv⟩; exact ⟨v,rfl,hv,e1⟩)) fun vv42 W14 hh42=>?_
   obtain ⟨hv42,e14⟩:=hh42
   have x14:=Ext.tr x13 e14
   obtain ⟨u43_,rfl,hu43_⟩:=hv42
   obtain ⟨a43_,c43_,rfl,-⟩:=id (OwnN.rd hu43_)
   refine sg 5 kj ?_
   have r13_14:=(Qaa r13_13 e14)
   refine Qal g13 _ (cat [ints .u8 (List.replicate 32 0),ints .u8 (List.replicate 32 0),#[.bool true],ints .u8 (key),#[.int .i64 ((n2:Nat):Int)]]) 31 r13_14 rfl kj (Qan 31 _ _ g13 31 _ _ r13_14 rfl kj kj (isz (n:=98) kj (by rw [Qad,Qad,Qad,Qad,Qad]; simp only [qS,cat,((Qac _ _).trans (List.length_replicate (n:=32))),((Qac _ _).trans hkl)]; rfl)) (eqsz (n:=98) (by rw [Qad,Qad,Qad,Qad,Qad]; simp only [qS,cat,((Qac _ _).trans (List.length_replicate (n:=32))),((Qac _ _).trans hkl)]; rfl) (by rw [Qad,Qad,Qad,Qad,Qad]; simp only [qS,cat,((Qac _ _).trans (List.length_replicate (n:=32))),((Qac _ _).trans hkl)]; rfl)) (Qcl _ (by intro a ha; simp only [List.mem_cons,List.not_mem_nil,or_false] at ha; rcases ha with rfl | rfl | rfl | rfl | rfl; exact (Qav _ _); exact (Qav _ _); exact (QaZ _ rfl); exact (Qav _ _); exact (QaZ _ rfl)))) fun W15 p15 r13_15=>?_
   have x15:=Puts.ext p15 x14 b13
   refine sg 1 kj <| Qao <| hK37 _ _ <| wp_seq_k fun K44 hK44=>QaD 27 [⟨none,[(16,none)]⟩,⟨none,[(100,some 0)]⟩,⟨none,[(13,none)]⟩,⟨none,[(101,some 1),(102,some 2)]⟩,⟨none,[(103,some 3)]⟩,⟨some (104,false),[(14,none),(104,some 4)]⟩,⟨some (104,false),[(15,none),(104,some 4)]⟩,⟨some (104,false),[(105,some 5),(106,some 6),(104,some 4)]⟩,⟨some (104,false),[(107,some 7),(104,some 4)]⟩,⟨none,[(104,some 4),(108,some 8)]⟩,⟨none,[(109,some 9)]⟩,⟨some (110,false),[(7,none),(110,some 10)]⟩,⟨some (110,false),[(111,some 11),(110,some 10)]⟩,⟨some (110,false),[(8,none),(110,some 10)]⟩,⟨some (110,false),[(113,some 13),(110,some 10)]⟩,⟨some (110,false),[(112,some 12),(114,some 14),(110,some 10)]⟩,⟨none,[(110,some 10),(115,some 15)]⟩,⟨none,[(116,some 16)]⟩,⟨some (117,false),[(12,none),(117,some 17)]⟩,⟨some (117,false),[(10,none),(117,some 17)]⟩,⟨some (117,false),[(119,some 19),(117,some 17)]⟩,⟨some (117,false),[(118,some 18),(120,some 20),(117,some 17)]⟩,⟨some (117,false),[(121,some 21),(117,some 17)]⟩,⟨none,[(117,some 17),(122,some 22)]⟩,⟨none,[(123,some 23)]⟩,⟨some (124,false),[(14,none),(124,some 24)]⟩,⟨some (124,false),[(12,none),(124,some 24)]⟩] kj kj fun F hF=>Qar (Qag _) (errV bad) kj kj (fun W=>by kernel_rfl) <| QbS (Qag _) (.int .i64 bad) 16 #[errV bad] kj kj (fun W=>by kernel_rfl) (fun W hR=>(numV bad) W) <| Qar (Qag _) (.int .i64 bad) kj kj (fun W=>by kernel_rfl) <| Qar (Qag _) (.bool false) kj kj (fun W=>(Qaf (u:=.bool ((bad != bad))) kj (congrArg Value.bool (bne_self_eq_false _)))) <| Qar (Qag _) (.bool false) kj kj (fun W=>by kernel_rfl) ?_
   refine Qar (Qag _) (.slice a41_ ((xo).length) c41_) kj kj (fun W=>by kernel_rfl) <| Qar (Qag _) (.slice a43_ ((xo).length) c43_) kj kj (fun W=>by kernel_rfl) ?_
   have f46_15:=((hu41_.ext e14).puts p15 (Qbe hu41_ (Qau r13_12)))
   refine QbS (Qag _) (.bool true) 17 #[.slice a41_ ((xo).length) c41_,.slice a43_ ((xo).length) c43_] kj kj (fun W=>by kernel_rfl) (fun W hR=>(Qi8 _ _ _ _ W rfl (RdK.bytes (RdK.ext (OwnN.rd f46_15) (Rely.Ext.trans (Qak _) hR)) hxob) (RdK.bytes (RdK.ext (OwnN.rd (hu43_.puts p15 (Qbe hu43_ (Qau r13_13)))) (Rely.Ext.trans (Qak _) hR)) hxob))) <| Qar (Qag _) (.bool false) kj kj (fun W=>by kernel_rfl) <| Qar (Qag _) (.bool false) kj kj (fun W=>by kernel_rfl) <| Qar (Qag _) (.bool false) kj kj (fun W=>by kernel_rfl) <| Qar (Qag _) (.pointer (some ⟨gc16,0,none⟩)) kj kj (fun W=>by kernel_rfl) ?_
   have r16_14:=(Qaa r16_13 e14)
   have r16_15:=(Puts.row p15 r16_14 (Ne.symm n8c))
   refine QbS (Qag _) (.int .i64 ((n2:Nat):Int)) 18 #[.pointer (some ⟨gc16,0,none⟩)] kj kj (fun W=>by kernel_rfl) (fun W hR=>(QiH gc16 key n2 W hkl (Qaa (Qaa r16_15 (Qak _)) hR))) <| Qar (Qag _) (.pointer (some ⟨g13,97,none⟩)) kj kj (fun W=>by kernel_rfl) <| QaR (Qag _) (.int .i64 ((n2:Nat):Int)) kj kj (fun W hR=>(Qah 3 _ g13 97 31 _ (.int .i64 ((n2:Nat):Int)) _ (Qaa (Qaa r13_15 (Qak _)) hR) rfl kj (Qa3 [ints .u8 (List.replicate 32 0),ints .u8 (List.replicate 32 0),#[.bool true],ints .u8 (key)] [#[.int .i64 ((n2:Nat):Int)]] [] 97 (by rw [Qad,Qad,Qad,Qad]; simp only [qS,cat,((Qac _ _).trans (List.length_replicate (n:=32))),((Qac _ _).trans hkl)]; rfl) 0 _ rfl) kj)) ?_
   refine Qar (Qag _) (.bool false) kj kj (fun W=>(Qaf (u:=.bool ((((n2:Nat):Int) != ((n2:Nat):Int)))) kj (congrArg Value.bool (bne_self_eq_false _)))) <| Qar (Qag _) (.bool false) kj kj (fun W=>by kernel_rfl) <| Qar (Qag _) (.bool false) kj kj (fun W=>by kernel_rfl) <| Qar (Qag _) (.slice (some ⟨gk33,0,none⟩) (op.xs).length ck33) kj kj (fun W=>by kernel_rfl) <| Qar (Qag _) (.pointer (some ⟨g28,1,none⟩)) kj kj (fun W=>by kernel_rfl) ?_
   have r28_14:=(Qaa r28_13 e14)
   have r28_15:=(Puts.row p15 r28_14 (Qa2 q13_1 l28))
   refine QaR (Qag _) (.slice op.a op.xs.length op.c) kj kj (fun W hR=>(Qah 33 _ g28 1 35 _ (.slice op.a op.xs.length op.c) _ (Qaa (Qaa r28_15 (Qak _)) hR) rfl kj kj kj)) <| QbS (Qag _) (.bool true) 19 #[.slice (some ⟨gk33,0,none⟩) (op.xs).length ck33,.slice op.a op.xs.length op.c] kj kj (fun W=>by kernel_rfl) (fun W hR=>(QiN (op.xs) _ _ _ _ W (by omega) hobx (Qbn.ext (Qbn.ext (show Qbn 5 _ (op.xs) _ _ from ⟨gk33,ck33,rfl,(((QbY ho33 q13 (Qbe ho33 (Qau r16_11))).ext e14).puts p15 (Qbe ho33 (Qau r13_11)))⟩) (Qak _)) hR) (RdK.ext (OpAt.rd (OpAt.ext hop x15)) (Rely.Ext.trans (Qak _) hR)))) <| Qar (Qag _) (.bool false) kj kj (fun W=>by kernel_rfl) <| Qar (Qag _) (.bool false) kj kj (fun W=>by kernel_rfl) <| Qar (Qag _) (.bool false) kj kj (fun W=>by kernel_rfl) <| Qar (Qag _) (.slice a41_ ((xo).length) c41_) kj kj (fun W=>by kernel_rfl) <| Qar (Qag _) (.slice (some ⟨gk33,0,none⟩) (op.xs).length ck33) kj kj (fun W=>by kernel_rfl) <| QbN (hF _ fun W16 e16=>?_)
   simp only [List.nil_append,List.cons_append,List.take_succ_cons,List.take_zero,List.drop_succ_cons,List.drop_zero,finE,up]
   clear hF
   have x16:=Ext.tr x15 e16
   refine Qa7 (#[.slice a41_ ((xo).length) c41_,.slice (some ⟨gk33,0,none⟩) (op.xs).length ck33]) 33 2 127 rfl kj kj fun g51 W17 l51 e17 r51_17=>?_
   have x17:=Ext.tr x16 e17
   have b51:=qT x16.size l51
   refine Qat (fun v W'=>v=.bool true∧Below V1.heap.size W17 W') 20 #[.slice (some ⟨g51,0,none⟩) 2 2] 128 rfl kj kj ((QfN (l0:=xo) (l1:=op.xs) (qT (qT (qT (qT (qT (qT (qT (qT (qT (qR _) e9.size) (qE p10.2.2.2.1.symm)) e11.size) e12.size) q13.2.2.2.1) e14.size) (qE p15.2.2.2.1.symm)) e16.size) e17.size) r51_17 (OwnN.v (OwnN.base (qT (qT (qT (qT (qR _) e9.size) (qE p10.2.2.2.1.symm)) e11.size) e12.size) ((f46_15.ext e16).ext e17))) (OwnN.v (OwnN.base (qT (qT (qT (qR _) e9.size) (qE p10.2.2.2.1.symm)) e11.size) (((((QbY (Qbn.own ⟨gk33,ck33,rfl,ho33⟩) q13 (Qbe (Qbn.own ⟨gk33,ck33,rfl,ho33⟩) (Qau r16_11))).ext e14).puts p15 (Qbe (Qbn.own ⟨gk33,ck33,rfl,ho33⟩) (Qau r13_11))).ext e16).ext e17))) (by omega) (by omega) (Qdq (Qbn.own ⟨gk33,ck33,rfl,ho33⟩) hu41_ (qR _))).mono (by rintro e w' ⟨h1,h2⟩; exact ⟨_,h1,rfl,h2⟩)) fun v59 W18 h59=>?_
   obtain ⟨rfl,l18⟩:=h59
   have x18:=Ext.low x17 l18 xx1.size
   refine sg 2 kj <| sgN hK44 <| cond_false kj <| wp_skip <| hK26 _ _ <| Qai <| Qab (.int .i64 ((i+1:Nat):Int)) 131 rfl kj (Qaf (u:=.int .i64 (IntKind.i64.wrap (((i:Nat):Int)+1))) kj (congrArg (Value.int .i64) (i64n _ _ (by omega) (by omega)))) <| sg 1 kj <| Qao ?_
   have r16_16:=(Qaa r16_15 e16)
   have r16_17:=(Qaa r16_16 e17)
   have r16_18:=(Qbf l18 r16_17 (Qau q16_1))
   have r13_16:=(Qaa r13_15 e16)
   have r13_17:=(Qaa r13_16 e17)
   have r13_18:=(Qbf l18 r13_17 (Qau q13_1))
   repeat (first | with_reducible refine goX1 ?_ | with_reducible refine goX2 ?_ | with_reducible refine goX3 ?_)
   exact Qax ((i+1),n2) ⟨kj,kj,kj,kj,kj,trivial⟩ ⟨(by omega),hn2,r16_18,r13_18,(Qas.low (Qas.step (Qas.step (Qas.puts (Qas.step (Qas.but (Qas.step (Qas.step (Qas.puts (Qas.step q8 e9) p10 (.inr (qT (Qas.size q8) (qT (qR _) l28)))) e11) e12) q13 (.inl (by simp))) e14) p15 (.inl (by simp))) e16) e17) l18 (qT (Qas.size q8) (qR _))),x18⟩ (by omega)
  ·skip
   obtain ⟨xo,bad,n2,hxob,hxol,hn2,hP,hR_⟩:=QfV key num [cx] op.xs hkl hkb hnum hcx (by show 1≤1048576; decide) hobx (by omega)
   refine sgC fun K60 hK60=>sg 3 kj ?_
   have r30_12:=(Qaa r30_11 e12)
   have r16_9:=(Qaa q16_1 e9)
   have r16_10:=(Puts.row p10 r16_9 (Qae q16_1 l28))
   have r16_11:=(Qaa r16_10 e11)
   have r16_12:=(Qaa r16_11 e12)
   have r2_2:=(Qaa r2_1 e2)
   have r2_3:=(Qaa r2_2 e3)
   have r2_4:=(Qaa r2_3 e4)
   have r2_5:=(Puts.row p5 r2_4 (Qae r2_3 l13))
   have r2_6:=(Qaa r2_5 e6)
   have r2_7:=(Qaa r2_6 e7)
   have r2_8:=(Qas.row q8 r2_7 (QaC (Qae r2_3 lc16) (QaC (Qae r2_3 l13) QaS)))
   have r2_9:=(Qaa r2_8 e9)
   have r2_10:=(Puts.row p10 r2_9 (Qae r2_8 l28))
   have r2_11:=(Qaa r2_10 e11)
   have r2_12:=(Qaa r2_11 e12)
   have r1_2:=(Qaa r1_1 e2)
   have r1_3:=(Qaa r1_2 e3)
   have r1_4:=(Qaa r1_3 e4)
   have r1_5:=(Puts.row p5 r1_4 (Qae r1_3 l13))
   have r1_6:=(Qaa r1_5 e6)
   have r1_7:=(Qaa r1_6 e7)
   have r1_8:=(Qas.row q8 r1_7 (QaC (Qae r1_3 lc16) (QaC (Qae r1_3 l13) QaS)))
   have r1_9:=(Qaa r1_8 e9)
   have r1_10:=(Puts.row p10 r1_9 (Qae r1_8 l28))
   have r1_11:=(Qaa r1_10 e11)
   have r1_12:=(Qaa r1_11 e12)
   have r13_9:=(Qaa q13_1 e9)
   have r13_10:=(Puts.row p10 r13_9 (Qae q13_1 l28))
   have r13_11:=(Qaa r13_10 e11)
   have r13_12:=(Qaa r13_11 e12)
   refine Qat (fun v W'=>∃ u,v=.tuple #[u,errV bad]∧OwnN .u8 5 W12.heap.size xo u W'∧ExtB gc16 W12 W'∧W'.heap[gc16]? = some (.cells (cat [ints .u8 (key),#[.bool true],#[.int .i64 ((n2:Nat):Int)]]) 65)) 14 #[.pointer (some ⟨gc16,0,none⟩),.slice (some ⟨g30,0,none⟩) 1 1,.slice (some ⟨gk33,0,none⟩) (op.xs).length ck33] 88 rfl kj kj ((hP gc16 _ _ _ _ th tq _ r2_12 r1_12 r16_12 (QaI (xs:=[(cx)]) (n:=1) rfl r30_12 (Qau r30_12) (show 1≤maxLen from by decide)) (OwnN.rd (Qbn.own ⟨gk33,ck33,rfl,ho33⟩))).mono (by rintro e w' ⟨u,rfl,h1,h2,h3⟩; exact ⟨_,rfl,u,rfl,h1,h2,h3⟩)) fun v W13 h61=>?_
   obtain ⟨u61_,rfl,hu61_,q13,r16_13⟩:=h61
   have x13:=ExtB.up x12 q13 bc16
   obtain ⟨a61_,c61_,rfl,-⟩:=id (OwnN.rd hu61_)
   refine sg 5 kj <| sgN hK60 <| Qai ?_
   have r13_13:=(ExtB.row q13 r13_12 n8c)
   refine Qab (.agg (cat [ints .u8 (List.replicate 32 0),ints .u8 (List.replicate 32 0),#[.bool true],ints .u8 (key),#[.int .i64 ((num:Nat):Int)]])) 92 rfl kj (Qap 31 _ g13 31 _ _ r13_13 rfl kj kj (isz (n:=98) kj (by rw [Qad,Qad,Qad,Qad,Qad]; simp only [qS,cat,((Qac _ _).trans (List.length_replicate (n:=32))),((Qac _ _).trans hkl)]; rfl))) ?_
   refine sg 2 kj ?_
   have r28_13:=(ExtB.row q13 r28_12 (Qa2 q16_1 l28))
   refine Qab (.slice op.a op.xs.length op.c) 95 rfl kj (Qah 33 _ g28 1 35 _ (.slice op.a op.xs.length op.c) _ r28_13 rfl kj kj kj) ?_
   have r30_13:=(ExtB.row q13 r30_12 (Qa2 r16_10 l30))
   refine Qat (fun v W'=>(fun v W=>∃ u,v=.tuple #[u,.agg (cat [ints .u8 (List.replicate 32 0),ints .u8 (List.replicate 32 0),#[.bool true],ints .u8 (key),#[.int .i64 ((n2:Nat):Int)]]),.int .i64 bad]∧OwnN .u8 5 W13.heap.size xo u W) v W'∧Ext W13 W') 15 #[.agg (cat [ints .u8 (List.replicate 32 0),ints .u8 (List.replicate 32 0),#[.bool true],ints .u8 (key),#[.int .i64 ((num:Nat):Int)]]),.slice (some ⟨g30,0,none⟩) 1 1,.slice op.a op.xs.length op.c] 96 rfl kj kj ((hR_ (List.replicate 32 0) (List.replicate 32 0) _ _ _ _ _ (List.length_replicate (n:=32)) (List.length_replicate (n:=32)) (QaI (xs:=[(cx)]) (n:=1) rfl r30_13 (Qau r30_13) (show 1≤maxLen from by decide)) (OpAt.rd (OpAt.ext hop x13))).mono (by rintro e w' ⟨v,rfl,e1,hv⟩; exact ⟨v,rfl,hv,e1⟩)) fun vv62 W14 hh62=>?_
   obtain ⟨hv62,e14⟩:=hh62
   have x14:=Ext.tr x13 e14
   obtain ⟨u63_,rfl,hu63_⟩:=hv62
   obtain ⟨a63_,c63_,rfl,-⟩:=id (OwnN.rd hu63_)
   refine sg 5 kj ?_
   have r13_14:=(Qaa r13_13 e14)
   refine Qal g13 _ (cat [ints .u8 (List.replicate 32 0),ints .u8 (List.replicate 32 0),#[.bool true],ints .u8 (key),#[.int .i64 ((n2:Nat):Int)]]) 31 r13_14 rfl kj (Qan 31 _ _ g13 31 _ _ r13_14 rfl kj kj (isz (n:=98) kj (by rw [Qad,Qad,Qad,Qad,Qad]; simp only [qS,cat,((Qac _ _).trans (List.length_replicate (n:=32))),((Qac _ _).trans hkl)]; rfl)) (eqsz (n:=98) (by rw [Qad,Qad,Qad,Qad,Qad]; simp only [qS,cat,((Qac _ _).trans (List.length_replicate (n:=32))),((Qac _ _).trans hkl)]; rfl) (by rw [Qad,Qad,Qad,Qad,Qad]; simp only [qS,cat,((Qac _ _).trans (List.length_replicate (n:=32))),((Qac _ _).trans hkl)]; rfl)) (Qcl _ (by intro a ha; simp only [List.mem_cons,List.not_mem_nil,or_false] at ha; rcases ha with rfl | rfl | rfl | rfl | rfl; exact (Qav _ _); exact (Qav _ _); exact (QaZ _ rfl); exact (Qav _ _); exact (QaZ _ rfl)))) fun W15 p15 r13_15=>?_
   have x15:=Puts.ext p15 x14 b13
   refine sg 1 kj <| Qao <| hK37 _ _ <| wp_seq_k fun K64 hK64=>QaD 27 [⟨none,[(16,none)]⟩,⟨none,[(100,some 0)]⟩,⟨none,[(13,none)]⟩,⟨none,[(101,some 1),(102,some 2)]⟩,⟨none,[(103,some 3)]⟩,⟨some (104,false),[(14,none),(104,some 4)]⟩,⟨some (104,false),[(15,none),(104,some 4)]⟩,⟨some (104,false),[(105,some 5),(106,some 6),(104,some 4)]⟩,⟨some (104,false),[(107,some 7),(104,some 4)]⟩,⟨none,[(104,some 4),(108,some 8)]⟩,⟨none,[(109,some 9)]⟩,⟨some (110,false),[(7,none),(110,some 10)]⟩,⟨some (110,false),[(111,some 11),(110,some 10)]⟩,⟨some (110,false),[(8,none),(110,some 10)]⟩,⟨some (110,false),[(113,some 13),(110,some 10)]⟩,⟨some (110,false),[(112,some 12),(114,some 14),(110,some 10)]⟩,⟨none,[(110,some 10),(115,some 15)]⟩,⟨none,[(116,some 16)]⟩,⟨some (117,false),[(12,none),(117,some 17)]⟩,⟨some (117,false),[(10,none),(117,some 17)]⟩,⟨some (117,false),[(119,some 19),(117,some 17)]⟩,⟨some (117,false),[(118,some 18),(120,some 20),(117,some 17)]⟩,⟨some (117,false),[(121,some 21),(117,some 17)]⟩,⟨none,[(117,some 17),(122,some 22)]⟩,⟨none,[(123,some 23)]⟩,⟨some (124,false),[(14,none),(124,some 24)]⟩,⟨some (124,false),[(12,none),(124,some 24)]⟩] kj kj fun F hF=>Qar (Qag _) (errV bad) kj kj (fun W=>by kernel_rfl) <| QbS (Qag _) (.int .i64 bad) 16 #[errV bad] kj kj (fun W=>by kernel_rfl) (fun W hR=>(numV bad) W) <| Qar (Qag _) (.int .i64 bad) kj kj (fun W=>by kernel_rfl) <| Qar (Qag _) (.bool false) kj kj (fun W=>(Qaf (u:=.bool ((bad != bad))) kj (congrArg Value.bool (bne_self_eq_false _)))) <| Qar (Qag _) (.bool false) kj kj (fun W=>by kernel_rfl) ?_
   refine Qar (Qag _) (.slice a61_ ((xo).length) c61_) kj kj (fun W=>by kernel_rfl) <| Qar (Qag _) (.slice a63_ ((xo).length) c63_) kj kj (fun W=>by kernel_rfl) ?_
   have f66_15:=((hu61_.ext e14).puts p15 (Qbe hu61_ (Qau r13_12)))
   refine QbS (Qag _) (.bool true) 17 #[.slice a61_ ((xo).length) c61_,.slice a63_ ((xo).length) c63_] kj kj (fun W=>by kernel_rfl) (fun W hR=>(Qi8 _ _ _ _ W rfl (RdK.bytes (RdK.ext (OwnN.rd f66_15) (Rely.Ext.trans (Qak _) hR)) hxob) (RdK.bytes (RdK.ext (OwnN.rd (hu63_.puts p15 (Qbe hu63_ (Qau r13_13)))) (Rely.Ext.trans (Qak _) hR)) hxob))) <| Qar (Qag _) (.bool false) kj kj (fun W=>by kernel_rfl) <| Qar (Qag _) (.bool false) kj kj (fun W=>by kernel_rfl) <| Qar (Qag _) (.bool false) kj kj (fun W=>by kernel_rfl) <| Qar (Qag _) (.pointer (some ⟨gc16,0,none⟩)) kj kj (fun W=>by kernel_rfl) ?_
   have r16_14:=(Qaa r16_13 e14)
   have r16_15:=(Puts.row p15 r16_14 (Ne.symm n8c))
   refine QbS (Qag _) (.int .i64 ((n2:Nat):Int)) 18 #[.pointer (some ⟨gc16,0,none⟩)] kj kj (fun W=>by kernel_rfl) (fun W hR=>(QiH gc16 key n2 W hkl (Qaa (Qaa r16_15 (Qak _)) hR))) <| Qar (Qag _) (.pointer (some ⟨g13,97,none⟩)) kj kj (fun W=>by kernel_rfl) <| QaR (Qag _) (.int .i64 ((n2:Nat):Int)) kj kj (fun W hR=>(Qah 3 _ g13 97 31 _ (.int .i64 ((n2:Nat):Int)) _ (Qaa (Qaa r13_15 (Qak _)) hR) rfl kj (Qa3 [ints .u8 (List.replicate 32 0),ints .u8 (List.replicate 32 0),#[.bool true],ints .u8 (key)] [#[.int .i64 ((n2:Nat):Int)]] [] 97 (by rw [Qad,Qad,Qad,Qad]; simp only [qS,cat,((Qac _ _).trans (List.length_replicate (n:=32))),((Qac _ _).trans hkl)]; rfl) 0 _ rfl) kj)) ?_
   refine Qar (Qag _) (.bool false) kj kj (fun W=>(Qaf (u:=.bool ((((n2:Nat):Int) != ((n2:Nat):Int)))) kj (congrArg Value.bool (bne_self_eq_false _)))) <| Qar (Qag _) (.bool false) kj kj (fun W=>by kernel_rfl) <| Qar (Qag _) (.bool false) kj kj (fun W=>by kernel_rfl) <| Qar (Qag _) (.slice (some ⟨gk33,0,none⟩) (op.xs).length ck33) kj kj (fun W=>by kernel_rfl) <| Qar (Qag _) (.pointer (some ⟨g28,1,none⟩)) kj kj (fun W=>by kernel_rfl) ?_
   have r28_14:=(Qaa r28_13 e14)
   have r28_15:=(Puts.row p15 r28_14 (Qa2 q13_1 l28))
   refine QaR (Qag _) (.slice op.a op.xs.length op.c) kj kj (fun W hR=>(Qah 33 _ g28 1 35 _ (.slice op.a op.xs.length op.c) _ (Qaa (Qaa r28_15 (Qak _)) hR) rfl kj kj kj)) <| QbS (Qag _) (.bool true) 19 #[.slice (some ⟨gk33,0,none⟩) (op.xs).length ck33,.slice op.a op.xs.length op.c] kj kj (fun W=>by kernel_rfl) (fun W hR=>(QiN (op.xs) _ _ _ _ W (by omega) hobx (Qbn.ext (Qbn.ext (show Qbn 5 _ (op.xs) _ _ from ⟨gk33,ck33,rfl,(((QbY ho33 q13 (Qbe ho33 (Qau r16_11))).ext e14).puts p15 (Qbe ho33 (Qau r13_11)))⟩) (Qak _)) hR) (RdK.ext (OpAt.rd (OpAt.ext hop x15)) (Rely.Ext.trans (Qak _) hR)))) <| Qar (Qag _) (.bool false) kj kj (fun W=>by kernel_rfl) <| Qar (Qag _) (.bool false) kj kj (fun W=>by kernel_rfl) <| Qar (Qag _) (.bool false) kj kj (fun W=>by kernel_rfl) <| Qar (Qag _) (.slice a61_ ((xo).length) c61_) kj kj (fun W=>by kernel_rfl) <| Qar (Qag _) (.slice (some ⟨gk33,0,none⟩) (op.xs).length ck33) kj kj (fun W=>by kernel_rfl) <| QbN (hF _ fun W16 e16=>?_)
   simp only [List.nil_append,List.cons_append,List.take_succ_cons,List.take_zero,List.drop_succ_cons,List.drop_zero,finE,up]
   clear hF
   have x16:=Ext.tr x15 e16
   refine Qa7 (#[.slice a61_ ((xo).length) c61_,.slice (some ⟨gk33,0,none⟩) (op.xs).length ck33]) 33 2 127 rfl kj kj fun g71 W17 l71 e17 r71_17=>?_
   have x17:=Ext.tr x16 e17
   have b71:=qT x16.size l71
   refine Qat (fun v W'=>v=.bool true∧Below V1.heap.size W17 W') 20 #[.slice (some ⟨g71,0,none⟩) 2 2] 128 rfl kj kj ((QfN (l0:=xo) (l1:=op.xs) (qT (qT (qT (qT (qT (qT (qT (qT (qT (qR _) e9.size) (qE p10.2.2.2.1.symm)) e11.size) e12.size) q13.2.2.2.1) e14.size) (qE p15.2.2.2.1.symm)) e16.size) e17.size) r71_17 (OwnN.v (OwnN.base (qT (qT (qT (qT (qR _) e9.size) (qE p10.2.2.2.1.symm)) e11.size) e12.size) ((f66_15.ext e16).ext e17))) (OwnN.v (OwnN.base (qT (qT (qT (qR _) e9.size) (qE p10.2.2.2.1.symm)) e11.size) (((((QbY (Qbn.own ⟨gk33,ck33,rfl,ho33⟩) q13 (Qbe (Qbn.own ⟨gk33,ck33,rfl,ho33⟩) (Qau r16_11))).ext e14).puts p15 (Qbe (Qbn.own ⟨gk33,ck33,rfl,ho33⟩) (Qau r13_11))).ext e16).ext e17))) (by omega) (by omega) (Qdq (Qbn.own ⟨gk33,ck33,rfl,ho33⟩) hu61_ (qR _))).mono (by rintro e w' ⟨h1,h2⟩; exact ⟨_,h1,rfl,h2⟩)) fun v79 W18 h79=>?_
   obtain ⟨rfl,l18⟩:=h79
   have x18:=Ext.low x17 l18 xx1.size
   refine sg 2 kj <| sgN hK64 <| cond_false kj <| wp_skip <| hK26 _ _ <| Qai <| Qab (.int .i64 ((i+1:Nat):Int)) 131 rfl kj (Qaf (u:=.int .i64 (IntKind.i64.wrap (((i:Nat):Int)+1))) kj (congrArg (Value.int .i64) (i64n _ _ (by omega) (by omega)))) <| sg 1 kj <| Qao ?_
   have r16_16:=(Qaa r16_15 e16)
   have r16_17:=(Qaa r16_16 e17)
   have r16_18:=(Qbf l18 r16_17 (Qau q16_1))
   have r13_16:=(Qaa r13_15 e16)
   have r13_17:=(Qaa r13_16 e17)
   have r13_18:=(Qbf l18 r13_17 (Qau q13_1))
   repeat (first | with_reducible refine goX1 ?_ | with_reducible refine goX2 ?_ | with_reducible refine goX3 ?_)
   exact Qax ((i+1),n2) ⟨kj,kj,kj,kj,kj,trivial⟩ ⟨(by omega),hn2,r16_18,r13_18,(Qas.low (Qas.step (Qas.step (Qas.puts (Qas.step (Qas.but (Qas.step (Qas.step (Qas.puts (Qas.step q8 e9) p10 (.inr (qT (Qas.size q8) (qT (qR _) l28)))) e11) e12) q13 (.inl (by simp))) e14) p15 (.inl (by simp))) e16) e17) l18 (qT (Qas.size q8) (qR _))),x18⟩ (by omega)
 ·skip
  have heq:i=len:=by have:=of_decide_eq_false c25; omega
  refine wp_exit <| hK21 _ _ <| sgB kj <| wp_ret ?_
  repeat (first | with_reducible refine goR1 ?_ | with_reducible refine goR2 ?_)
  exact (show bodyPost _ _ _ .ret _ _ from ret1 (.bool true) rfl (Qa0 kj) ⟨rfl,xx1⟩)
set_option maxRecDepth 100000 in
theorem Qmf (key : List Int) (number:Int) (len cap gT oT:Nat) (ad:Option Addr) (ops:Nat→OpV)  (th tq tsc tsq:TypeId) (w:World) (had:0<len→ad=some ⟨gT,oT,none⟩) (hops:∀ i,i<len→OpAt w gT oT i (ops i)) (hh:w.heap[2]? = some (.cells (ints .u32 [1634760805,857760878,2036477234,1797285236]) th)) (hq:w.heap[3]? = some (.cells (ints .i64 [0,4,8,12,1,5,9,13,2,6,10,14,3,7,11,15,0,5,10,15,1,6,11,12,2,7,8,13,3,4,9,14]) tq)) (hsc:w.heap[1]? = some (.cells (ints .u64 Qb4) tsc)) (hsq:w.heap[0]? = some (.cells (ints .u64 QaV) tsq)) (hkl:key.length=32) (hkb:Qaj key) (hall:∀ i,i<len→i≤60∧(ops i).xs.length≤500) (hn:4294967295<number):Calls Tryd.prog 3 #[.agg (ints .u8 key),.int .i64 number,.slice ad len cap] w (Ret w (.bool true)):=by
 refine enter 132 [(0,.agg (ints .u8 (key))),(1,.int .i64 number),(2,.slice ad len cap)] Tryd.func3 rfl rfl kj rfl <| sgC fun K5 hK5=>Qaq (ints .u8 (key)) 23 3 rfl kj kj fun g6 W1 l6 e1 r6_1=>?_
 have b6:=qT (Rely.Ext.refl w).size l6
 refine sg 1 kj <| sgN hK5 <| wp_seq_k fun K7 hK7=>sgC fun K8 hK8=>?_
 have r2_1:=(Qaa hh e1)
 have r1_1:=(Qaa hq e1)
 refine Qa6 (.bool true) 6 #[] 17 rfl kj kj (Qgq th tq tsc tsq _ r2_1 r1_1 (Qaa hsc e1) (Qaa hsq e1)) fun W2 e2=>?_
 have x2:=Ext.tr (Ext.tr (Rely.Ext.refl w) e1) e2
 refine sg 1 kj <| sgN hK8 <| cond_false kj <| wp_skip <| hK7 _ _ <| wp_seq_k fun K9 hK9=>sgC fun K10 hK10=>sg 1 kj <| Qa6 (.bool false) 7 #[.slice ad len cap] 20 rfl kj kj (Qh9 len cap gT oT ad ops _ had (fun i hi=>OpAt.ext (hops i hi) x2) hall) fun W3 e3=>?_
 have x3:=Ext.tr x2 e3
 refine sgN hK10 <| cond_false kj <| wp_skip <| hK9 _ _ <| wp_seq_k fun K11 hK11=>QaD 6 [⟨none,[(3,none)]⟩,⟨none,[(21,some 0)]⟩,⟨none,[(3,none)]⟩,⟨none,[(23,some 2)]⟩,⟨none,[]⟩,⟨none,[(22,some 1)]⟩] kj kj fun F hF=>?_
 have r6_3:=(Qaa (Qaa r6_1 e2) e3)
 refine QaR (Qag _) (.agg (ints .u8 (key))) kj kj (fun W hR=>(Qap 23 _ g6 23 _ _ (Qaa (Qaa r6_3 (Qak _)) hR) rfl kj kj (isz (n:=32) kj ((Qac _ _).trans hkl)))) <| Qcv (Qag _) (QeU W3.heap.size key) (Qcz _ _) 8 #[.agg (ints .u8 (key))] kj kj (fun W=>by kernel_rfl) (fun W hR=>(Qj0 W3.heap.size key _ hkl (Rely.Ext.trans (Qak _) hR).size)) <| QaR (Qag _) (.agg (ints .u8 (key))) kj kj (fun W hR=>(Qap 23 _ g6 23 _ _ (Qaa (Qaa r6_3 (Qak _)) hR) rfl kj kj (isz (n:=32) kj ((Qac _ _).trans hkl)))) <| Qar (Qag _) (.agg (cat [ints .u8 (List.replicate 32 0),ints .u8 (List.replicate 32 0),#[.bool true],ints .u8 (key),#[.int .i64 0]])) kj kj (fun W=>(Qc7 31 _ (.agg (cat [ints .u8 (List.replicate 32 0),ints .u8 (List.replicate 32 0),#[.bool false],ints .u8 (List.replicate 32 0),#[.int .i64 0]])) #[(0,32),(32,32),(64,1),(65,32),(97,1)] 64 [ints .u8 (List.replicate 32 0),ints .u8 (List.replicate 32 0)] (cat [#[.bool false],ints .u8 (List.replicate 32 0),#[.int .i64 0]]) [(2,1,.bool true,#[.bool true]),(3,32,.agg (ints .u8 (key)),ints .u8 (key))] [#[.int .i64 0]] rfl kj (by rw [Qad,Qad]; simp only [qS,cat,((Qac _ _).trans (List.length_replicate (n:=32)))]; rfl) ⟨kj,rfl,kj,kj,rfl,((Qac _ _).trans hkl),trivial⟩ kj (Nat.le_of_ble_eq_true kj) kj kj kj kj)) ?_
 refine Qhd (Qag _) (cat [ints .u8 (List.replicate 32 0),ints .u8 (List.replicate 32 0),#[.bool false],ints .u8 (List.replicate 32 0),#[.int .i64 0]]) 31 (NewP.stable _ _ _) kj kj (fun W=>by kernel_rfl) <| Qbr (Qag _) (QeU W3.heap.size key) (Qcz _ _) (fun ρ W hR hh=>⟨ρ 22,W,by kernel_rfl,Rely.Ext.refl _,(show (QeU W3.heap.size key) (ρ 22) W from hh.1)⟩) <| QbN (hF _ fun W4 e4=>?_)
 simp only [List.nil_append,List.cons_append,List.take_succ_cons,List.take_zero,List.drop_succ_cons,List.drop_zero,finE,up]
 intro vv12 hv12 vv13 hv13 vv14 hv14
 clear hF
 obtain ⟨gc15,rfl,lc15,rc15⟩:=hv12
 have bc15:=qT x3.size lc15
 obtain ⟨g13,rfl,l13,r13_4⟩:=hv13
 have b13:=qT x3.size l13
 obtain ⟨gc16,rfl,lc16,rc16⟩:=hv14
 have bc16:=qT x3.size lc16
 have n8c:g13≠gc16:=Qj2 r13_4 rc16 (by decide)
 refine Qal g13 _ (cat [ints .u8 (List.replicate 32 0),ints .u8 (List.replicate 32 0),#[.bool true],ints .u8 (key),#[.int .i64 0]]) 31 r13_4 rfl kj (Qan 31 _ _ g13 31 _ _ r13_4 rfl kj kj (isz (n:=98) kj (by rw [Qad,Qad,Qad,Qad,Qad]; simp only [qS,cat,((Qac _ _).trans (List.length_replicate (n:=32))),((Qac _ _).trans hkl)]; rfl)) (eqsz (n:=98) (by rw [Qad,Qad,Qad,Qad,Qad]; simp only [qS,cat,((Qac _ _).trans (List.length_replicate (n:=32)))]; rfl) (by rw [Qad,Qad,Qad,Qad,Qad]; simp only [qS,cat,((Qac _ _).trans (List.length_replicate (n:=32))),((Qac _ _).trans hkl)]; rfl)) (Qcl _ (by intro a ha; simp only [List.mem_cons,List.not_mem_nil,or_false] at ha; rcases ha with rfl | rfl | rfl | rfl | rfl; exact (Qav _ _); exact (Qav _ _); exact (QaZ _ rfl); exact (Qav _ _); exact (QaZ _ rfl)))) fun W5 p5 r13_5=>?_
 refine sgN hK11 <| wp_seq_k fun K17 hK17=>sgC fun K18 hK18=>sg 4 kj ?_
 have r16_5:=(Puts.row p5 rc16 (Ne.symm n8c))
 refine Qa6 (.bool true) 9 #[.pointer (some ⟨gc16,0,none⟩)] 29 rfl kj kj (Qmh gc16 key 0 _ hkl r16_5) fun W6 e6=>sg 5 kj ?_
 have r16_6:=(Qaa r16_5 e6)
 refine Qa6 (.bool false) 10 #[.pointer (some ⟨gc16,0,none⟩),.int .i64 number] 35 rfl kj kj (QlW gc16 key 0 number _ hkl r16_6 (by omega)) fun W7 e7=>sg 1 kj <| Qab (.bool true) 37 rfl kj (Qaf (u:=.bool (decide (number≥0))) kj (congrArg Value.bool (decide_eq_true (by omega)))) <| sg 2 kj <| Qab (.bool false) 40 rfl kj (Qaf (u:=.bool (decide (number≤4294967295))) kj (congrArg Value.bool (decide_eq_false (by omega)))) <| sg 3 kj <| sgN hK18 <| cond_false kj <| wp_skip <| hK17 _ _ ?_
 refine wp_seq_k fun K19 hK19=>sgC fun K20 hK20=>sg 1 kj <| Qab (.bool true) 45 rfl kj (Qaf (u:=.bool (decide (number≥0))) kj (congrArg Value.bool (decide_eq_true (by omega)))) <| sg 2 kj <| Qab (.bool false) 48 rfl kj (Qaf (u:=.bool (decide (number≤4294967295))) kj (congrArg Value.bool (decide_eq_false (by omega)))) <| sg 1 kj <| sgN hK20 <| cond_false kj <| wp_skip ?_
 refine hK19 _ _ <| wp_seq_k fun K21 hK21=>sgB kj <| wp_block <| Qa5 (fun (s1:Nat×Nat)=>[(7,.pointer (some ⟨gc16,0,none⟩)),(8,.pointer (some ⟨g13,0,none⟩)),(52,.slice ad len cap),(53,.int .i64 ((len:Nat):Int)),(54,.int .i64 ((s1.1:Nat):Int))]) (fun (s1:Nat×Nat) W=>(s1.1≤len)∧(s1.2≤4294967295)∧(W.heap[gc16]? = some (.cells (cat [ints .u8 (key),#[.bool true],#[.int .i64 ((s1.2:Nat):Int)]]) 65))∧(W.heap[g13]? = some (.cells (cat [ints .u8 (List.replicate 32 0),ints .u8 (List.replicate 32 0),#[.bool true],ints .u8 (key),#[.int .i64 ((s1.2:Nat):Int)]]) 31))∧(Qas [gc16,g13] W7 W)∧(Ext w W)) (fun (s1:Nat×Nat)=>len-s1.1) (0,0) ⟨kj,kj,kj,kj,kj,trivial⟩ ⟨(Nat.zero_le _),(by decide),(Qaa r16_6 e7),(Qaa (Qaa r13_5 e6) e7),(Qas.refl [gc16,g13] W7),(Ext.tr (Ext.tr (Puts.ext p5 (Ext.tr x3 e4) b13) e6) e7)⟩ fun s1 X1 V1 hI1=>?_
 obtain ⟨i,num⟩:=s1
 obtain ⟨hi,hnum,q16_1,q13_1,kk1,xx1⟩:=hI1
 replace hi:i≤len:=hi
 replace hnum:num≤4294967295:=hnum
 replace q16_1:V1.heap[gc16]? = some (.cells (cat [ints .u8 (key),#[.bool true],#[.int .i64 ((num:Nat):Int)]]) 65):=q16_1
 replace q13_1:V1.heap[g13]? = some (.cells (cat [ints .u8 (List.replicate 32 0),ints .u8 (List.replicate 32 0),#[.bool true],ints .u8 (key),#[.int .i64 ((num:Nat):Int)]]) 31):=q13_1
 replace kk1:Qas [gc16,g13] W7 V1:=kk1
 replace xx1:Ext w V1:=xx1
 have q8:=kk1
 refine sgB kj <| wp_seq_k fun K24 hK24=>Qay (t:=decide (((i:Nat):Int)<((len:Nat):Int))) kj (fun c25=>?_) (fun c25=>?_)
 ·skip
  have hlt:i<len:=by have:=of_decide_eq_true c25; omega
  obtain ⟨op,hopE⟩:∃ z,z=ops i:=⟨_,rfl⟩
  have hop:OpAt w gT oT i op:=hopE▸hops i hlt
  have hox:op.xs.length≤500:=hopE▸(hall i hlt).2
  have hi60:=(hall i hlt).1
  have hobx:=OpAt.bytes hop
  obtain ⟨cx,ecx⟩:∃ z,z=IntKind.u8.wrap op.n:=⟨_,rfl⟩
  have hcx:Qaj [cx]:=ecx▸Qgh _
  refine wp_skip <| hK24 _ _ <| wp_seq_k fun K26 hK26=>wp_block <| sgC fun K27 hK27=>Qab (.pointer (some ⟨gT,oT+i*3,none⟩)) 56 rfl kj (QdR 24 _ _ .i64 i gT oT len cap 35 3 ad (had (by omega)) rfl kj kj kj kj hlt) <| Qab (.agg (cat [#[.int .i64 op.kind],#[.slice op.a op.xs.length op.c],#[.int .i64 op.n]])) 57 rfl kj (Qd2 35 _ gT oT i op (OpAt.ext hop xx1) rfl kj kj kj) <| Qaq (cat [#[.int .i64 0],#[.slice none 0 0],#[.int .i64 0]]) 35 10 rfl kj kj fun g28 W9 l28 e9 r28_9=>Qal g28 _ (cat [#[.int .i64 op.kind],#[.slice op.a op.xs.length op.c],#[.int .i64 op.n]]) 35 r28_9 rfl kj (Qan 35 _ _ g28 35 _ _ r28_9 rfl kj kj (isz (n:=3) kj kj) (eqsz (n:=3) kj kj) kj) fun W10 p10 r28_10=>?_
  have x10:=Puts.ext p10 (Ext.tr xx1 e9) (qT xx1.size l28)
  refine sgN hK27 <| sgC fun K29 hK29=>sg 1 kj <| Qab (.int .i64 op.n) 59 rfl kj (Qah 3 _ g28 2 35 _ (.int .i64 op.n) _ r28_10 rfl kj kj kj) <| Qab (.int .u8 (cx)) 60 rfl kj (Qaf (u:=.int .u8 (IntKind.u8.wrap (op.n))) kj (congrArg (Value.int .u8) ecx.symm)) <| Qa7 (ints .u8 ([(cx)])) 5 1 61 rfl kj kj fun g30 W11 l30 e11 r30_11=>?_
  have x11:=Ext.tr x10 e11
  have b30:=qT x10.size l30
  refine sg 1 kj <| sgN hK29 <| sgC fun K31 hK31=>sg 1 kj ?_
  have r28_11:=(Qaa r28_10 e11)
  refine Qab (.slice op.a op.xs.length op.c) 63 rfl kj (Qah 33 _ g28 1 35 _ (.slice op.a op.xs.length op.c) _ r28_11 rfl kj kj kj) <| Qat (fun v W'=>(Qbn 5 W11.heap.size (op.xs)) v W'∧Ext W11 W') 11 #[.slice op.a op.xs.length op.c] 64 rfl kj kj ((Qmn (op.xs) _ _ _ (by omega) (OpAt.rd (OpAt.ext hop x11))).mono (by rintro e w' ⟨v,rfl,e1,hv⟩; exact ⟨v,rfl,hv,e1⟩)) fun vv32 W12 hh32=>?_
  obtain ⟨hv32,e12⟩:=hh32
  have x12:=Ext.tr x11 e12
  obtain ⟨gk33,ck33,rfl,ho33⟩:=hv32
  refine sg 1 kj <| sgN hK31 <| sgB kj <| sgB kj <| sgB kj <| wp_seq_k fun K37 hK37=>sgC fun K38 hK38=>sg 1 kj ?_
  have r28_12:=(Qaa r28_11 e12)
  refine Qab (.int .i64 op.kind) 66 rfl kj (Qah 3 _ g28 0 35 _ (.int .i64 op.kind) _ r28_12 rfl kj kj kj) <| sg 1 kj <| sgN hK38 <| Qay (t:=(op.kind==2)) kj (fun c39=>?_) (fun c39=>?_)
  ·skip
   obtain ⟨xo,bad,n2,hxob,hxol,hn2,hP,hR_⟩:=Qgm key num [cx] op.xs hkl hkb hnum hcx (by show 1≤1048576; decide) hobx (by omega)
   refine sgC fun K40 hK40=>sg 3 kj ?_
   have r30_12:=(Qaa r30_11 e12)
   have r16_9:=(Qaa q16_1 e9)
   have r16_10:=(Puts.row p10 r16_9 (Qae q16_1 l28))
   have r16_11:=(Qaa r16_10 e11)
   have r16_12:=(Qaa r16_11 e12)
   have r2_2:=(Qaa r2_1 e2)
   have r2_3:=(Qaa r2_2 e3)
   have r2_4:=(Qaa r2_3 e4)
   have r2_5:=(Puts.row p5 r2_4 (Qae r2_3 l13))
   have r2_6:=(Qaa r2_5 e6)
   have r2_7:=(Qaa r2_6 e7)
   have r2_8:=(Qas.row q8 r2_7 (QaC (Qae r2_3 lc16) (QaC (Qae r2_3 l13) QaS)))
   have r2_9:=(Qaa r2_8 e9)
   have r2_10:=(Puts.row p10 r2_9 (Qae r2_8 l28))
   have r2_11:=(Qaa r2_10 e11)
   have r2_12:=(Qaa r2_11 e12)
   have r1_2:=(Qaa r1_1 e2)
   have r1_3:=(Qaa r1_2 e3)
   have r1_4:=(Qaa r1_3 e4)
   have r1_5:=(Puts.row p5 r1_4 (Qae r1_3 l13))
   have r1_6:=(Qaa r1_5 e6)
   have r1_7:=(Qaa r1_6 e7)
   have r1_8:=(Qas.row q8 r1_7 (QaC (Qae r1_3 lc16) (QaC (Qae r1_3 l13) QaS)))
   have r1_9:=(Qaa r1_8 e9)
   have r1_10:=(Puts.row p10 r1_9 (Qae r1_8 l28))
   have r1_11:=(Qaa r1_10 e11)
   have r1_12:=(Qaa r1_11 e12)
   have r13_9:=(Qaa q13_1 e9)
   have r13_10:=(Puts.row p10 r13_9 (Qae q13_1 l28))
   have r13_11:=(Qaa r13_10 e11)
   have r13_12:=(Qaa r13_11 e12)
   refine Qat (fun v W'=>∃ u,v=.tuple #[u,errV bad]∧OwnN .u8 5 W12.heap.size xo u W'∧ExtB gc16 W12 W'∧W'.heap[gc16]? = some (.cells (cat [ints .u8 (key),#[.bool true],#[.int .i64 ((n2:Nat):Int)]]) 65)) 12 #[.pointer (some ⟨gc16,0,none⟩),.slice (some ⟨g30,0,none⟩) 1 1,.slice (some ⟨gk33,0,none⟩) (op.xs).length ck33] 72 rfl kj kj ((hP gc16 _ _ _ _ th tq _ r2_12 r1_12 r16_12 (QaI (xs:=[(cx)]) (n:=1) rfl r30_12 (Qau r30_12) (show 1≤maxLen from by decide)) (OwnN.rd (Qbn.own ⟨gk33,ck33,rfl,ho33⟩))).mono (by rintro e w' ⟨u,rfl,h1,h2,h3⟩; exact ⟨_,rfl,u,rfl,h1,h2,h3⟩)) fun v W13 h41=>?_
   obtain ⟨u41_,rfl,hu41_,q13,r16_13⟩:=h41
   have x13:=ExtB.up x12 q13 bc16
   obtain ⟨a41_,c41_,rfl,-⟩:=id (OwnN.rd hu41_)
   refine sg 5 kj <| sgN hK40 <| Qai ?_
   have r13_13:=(ExtB.row q13 r13_12 n8c)
   refine Qab (.agg (cat [ints .u8 (List.replicate 32 0),ints .u8 (List.replicate 32 0),#[.bool true],ints .u8 (key),#[.int .i64 ((num:Nat):Int)]])) 76 rfl kj (Qap 31 _ g13 31 _ _ r13_13 rfl kj kj (isz (n:=98) kj (by rw [Qad,Qad,Qad,Qad,Qad]; simp only [qS,cat,((Qac _ _).trans (List.length_replicate (n:=32))),((Qac _ _).trans hkl)]; rfl))) ?_
   refine sg 2 kj ?_
   have r28_13:=(ExtB.row q13 r28_12 (Qa2 q16_1 l28))
   refine Qab (.slice op.a op.xs.length op.c) 79 rfl kj (Qah 33 _ g28 1 35 _ (.slice op.a op.xs.length op.c) _ r28_13 rfl kj kj kj) ?_
   have r30_13:=(ExtB.row q13 r30_12 (Qa2 r16_10 l30))
   refine Qat (fun v W'=>(fun v W=>∃ u,v=.tuple #[u,.agg (cat [ints .u8 (List.replicate 32 0),ints .u8 (List.replicate 32 0),#[.bool true],ints .u8 (key),#[.int .i64 ((n2:Nat):Int)]]),.int .i64 bad]∧OwnN .u8 5 W13.heap.size xo u W) v W'∧Ext W13 W') 13 #[.agg (cat [ints .u8 (List.replicate 32 0),ints .u8 (List.replicate 32 0),#[.bool true],ints .u8 (key),#[.int .i64 ((num:Nat):Int)]]),.slice (some ⟨g30,0,none⟩) 1 1,.slice op.a op.xs.length op.c] 80 rfl kj kj ((hR_ (List.replicate 32 0) (List.replicate 32 0) _ _ _ _ _ (List.length_replicate (n:=32)) (List.length_replicate (n:=32)) (QaI (xs:=[(cx)]) (n:=1) rfl r30_13 (Qau r30_13) (show 1≤maxLen from by decide)) (OpAt.rd (OpAt.ext hop x13))).mono (by rintro e w' ⟨v,rfl,e1,hv⟩; exact ⟨v,rfl,hv,e1⟩)) fun vv42 W14 hh42=>?_
   obtain ⟨hv42,e14⟩:=hh42
   have x14:=Ext.tr x13 e14
   obtain ⟨u43_,rfl,hu43_⟩:=hv42
   obtain ⟨a43_,c43_,rfl,-⟩:=id (OwnN.rd hu43_)
   refine sg 5 kj ?_
   have r13_14:=(Qaa r13_13 e14)
   refine Qal g13 _ (cat [ints .u8 (List.replicate 32 0),ints .u8 (List.replicate 32 0),#[.bool true],ints .u8 (key),#[.int .i64 ((n2:Nat):Int)]]) 31 r13_14 rfl kj (Qan 31 _ _ g13 31 _ _ r13_14 rfl kj kj (isz (n:=98) kj (by rw [Qad,Qad,Qad,Qad,Qad]; simp only [qS,cat,((Qac _ _).trans (List.length_replicate (n:=32))),((Qac _ _).trans hkl)]; rfl)) (eqsz (n:=98) (by rw [Qad,Qad,Qad,Qad,Qad]; simp only [qS,cat,((Qac _ _).trans (List.length_replicate (n:=32))),((Qac _ _).trans hkl)]; rfl) (by rw [Qad,Qad,Qad,Qad,Qad]; simp only [qS,cat,((Qac _ _).trans (List.length_replicate (n:=32))),((Qac _ _).trans hkl)]; rfl)) (Qcl _ (by intro a ha; simp only [List.mem_cons,List.not_mem_nil,or_false] at ha; rcases ha with rfl | rfl | rfl | rfl | rfl; exact (Qav _ _); exact (Qav _ _); exact (QaZ _ rfl); exact (Qav _ _); exact (QaZ _ rfl)))) fun W15 p15 r13_15=>?_
   have x15:=Puts.ext p15 x14 b13
   refine sg 1 kj <| Qao <| hK37 _ _ <| wp_seq_k fun K44 hK44=>QaD 27 [⟨none,[(16,none)]⟩,⟨none,[(100,some 0)]⟩,⟨none,[(13,none)]⟩,⟨none,[(101,some 1),(102,some 2)]⟩,⟨none,[(103,some 3)]⟩,⟨some (104,false),[(14,none),(104,some 4)]⟩,⟨some (104,false),[(15,none),(104,some 4)]⟩,⟨some (104,false),[(105,some 5),(106,some 6),(104,some 4)]⟩,⟨some (104,false),[(107,some 7),(104,some 4)]⟩,⟨none,[(104,some 4),(108,some 8)]⟩,⟨none,[(109,some 9)]⟩,⟨some (110,false),[(7,none),(110,some 10)]⟩,⟨some (110,false),[(111,some 11),(110,some 10)]⟩,⟨some (110,false),[(8,none),(110,some 10)]⟩,⟨some (110,false),[(113,some 13),(110,some 10)]⟩,⟨some (110,false),[(112,some 12),(114,some 14),(110,some 10)]⟩,⟨none,[(110,some 10),(115,some 15)]⟩,⟨none,[(116,some 16)]⟩,⟨some (117,false),[(12,none),(117,some 17)]⟩,⟨some (117,false),[(10,none),(117,some 17)]⟩,⟨some (117,false),[(119,some 19),(117,some 17)]⟩,⟨some (117,false),[(118,some 18),(120,some 20),(117,some 17)]⟩,⟨some (117,false),[(121,some 21),(117,some 17)]⟩,⟨none,[(117,some 17),(122,some 22)]⟩,⟨none,[(123,some 23)]⟩,⟨some (124,false),[(14,none),(124,some 24)]⟩,⟨some (124,false),[(12,none),(124,some 24)]⟩] kj kj fun F hF=>Qar (Qag _) (errV bad) kj kj (fun W=>by kernel_rfl) <| QbS (Qag _) (.int .i64 bad) 16 #[errV bad] kj kj (fun W=>by kernel_rfl) (fun W hR=>(numV bad) W) <| Qar (Qag _) (.int .i64 bad) kj kj (fun W=>by kernel_rfl) <| Qar (Qag _) (.bool false) kj kj (fun W=>(Qaf (u:=.bool ((bad != bad))) kj (congrArg Value.bool (bne_self_eq_false _)))) <| Qar (Qag _) (.bool false) kj kj (fun W=>by kernel_rfl) ?_
   refine Qar (Qag _) (.slice a41_ ((xo).length) c41_) kj kj (fun W=>by kernel_rfl) <| Qar (Qag _) (.slice a43_ ((xo).length) c43_) kj kj (fun W=>by kernel_rfl) ?_
   have f46_15:=((hu41_.ext e14).puts p15 (Qbe hu41_ (Qau r13_12)))
   refine QbS (Qag _) (.bool true) 17 #[.slice a41_ ((xo).length) c41_,.slice a43_ ((xo).length) c43_] kj kj (fun W=>by kernel_rfl) (fun W hR=>(Qi8 _ _ _ _ W rfl (RdK.bytes (RdK.ext (OwnN.rd f46_15) (Rely.Ext.trans (Qak _) hR)) hxob) (RdK.bytes (RdK.ext (OwnN.rd (hu43_.puts p15 (Qbe hu43_ (Qau r13_13)))) (Rely.Ext.trans (Qak _) hR)) hxob))) <| Qar (Qag _) (.bool false) kj kj (fun W=>by kernel_rfl) <| Qar (Qag _) (.bool false) kj kj (fun W=>by kernel_rfl) <| Qar (Qag _) (.bool false) kj kj (fun W=>by kernel_rfl) <| Qar (Qag _) (.pointer (some ⟨gc16,0,none⟩)) kj kj (fun W=>by kernel_rfl) ?_
   have r16_14:=(Qaa r16_13 e14)
   have r16_15:=(Puts.row p15 r16_14 (Ne.symm n8c))
   refine QbS (Qag _) (.int .i64 ((n2:Nat):Int)) 18 #[.pointer (some ⟨gc16,0,none⟩)] kj kj (fun W=>by kernel_rfl) (fun W hR=>(QiH gc16 key n2 W hkl (Qaa (Qaa r16_15 (Qak _)) hR))) <| Qar (Qag _) (.pointer (some ⟨g13,97,none⟩)) kj kj (fun W=>by kernel_rfl) <| QaR (Qag _) (.int .i64 ((n2:Nat):Int)) kj kj (fun W hR=>(Qah 3 _ g13 97 31 _ (.int .i64 ((n2:Nat):Int)) _ (Qaa (Qaa r13_15 (Qak _)) hR) rfl kj (Qa3 [ints .u8 (List.replicate 32 0),ints .u8 (List.replicate 32 0),#[.bool true],ints .u8 (key)] [#[.int .i64 ((n2:Nat):Int)]] [] 97 (by rw [Qad,Qad,Qad,Qad]; simp only [qS,cat,((Qac _ _).trans (List.length_replicate (n:=32))),((Qac _ _).trans hkl)]; rfl) 0 _ rfl) kj)) ?_
   refine Qar (Qag _) (.bool false) kj kj (fun W=>(Qaf (u:=.bool ((((n2:Nat):Int) != ((n2:Nat):Int)))) kj (congrArg Value.bool (bne_self_eq_false _)))) <| Qar (Qag _) (.bool false) kj kj (fun W=>by kernel_rfl) <| Qar (Qag _) (.bool false) kj kj (fun W=>by kernel_rfl) <| Qar (Qag _) (.slice (some ⟨gk33,0,none⟩) (op.xs).length ck33) kj kj (fun W=>by kernel_rfl) <| Qar (Qag _) (.pointer (some ⟨g28,1,none⟩)) kj kj (fun W=>by kernel_rfl) ?_
   have r28_14:=(Qaa r28_13 e14)
   have r28_15:=(Puts.row p15 r28_14 (Qa2 q13_1 l28))
   refine QaR (Qag _) (.slice op.a op.xs.length op.c) kj kj (fun W hR=>(Qah 33 _ g28 1 35 _ (.slice op.a op.xs.length op.c) _ (Qaa (Qaa r28_15 (Qak _)) hR) rfl kj kj kj)) <| QbS (Qag _) (.bool true) 19 #[.slice (some ⟨gk33,0,none⟩) (op.xs).length ck33,.slice op.a op.xs.length op.c] kj kj (fun W=>by kernel_rfl) (fun W hR=>(QiN (op.xs) _ _ _ _ W (by omega) hobx (Qbn.ext (Qbn.ext (show Qbn 5 _ (op.xs) _ _ from ⟨gk33,ck33,rfl,(((QbY ho33 q13 (Qbe ho33 (Qau r16_11))).ext e14).puts p15 (Qbe ho33 (Qau r13_11)))⟩) (Qak _)) hR) (RdK.ext (OpAt.rd (OpAt.ext hop x15)) (Rely.Ext.trans (Qak _) hR)))) <| Qar (Qag _) (.bool false) kj kj (fun W=>by kernel_rfl) <| Qar (Qag _) (.bool false) kj kj (fun W=>by kernel_rfl) <| Qar (Qag _) (.bool false) kj kj (fun W=>by kernel_rfl) <| Qar (Qag _) (.slice a41_ ((xo).length) c41_) kj kj (fun W=>by kernel_rfl) <| Qar (Qag _) (.slice (some ⟨gk33,0,none⟩) (op.xs).length ck33) kj kj (fun W=>by kernel_rfl) <| QbN (hF _ fun W16 e16=>?_)
   simp only [List.nil_append,List.cons_append,List.take_succ_cons,List.take_zero,List.drop_succ_cons,List.drop_zero,finE,up]
   clear hF
   have x16:=Ext.tr x15 e16
   refine Qa7 (#[.slice a41_ ((xo).length) c41_,.slice (some ⟨gk33,0,none⟩) (op.xs).length ck33]) 33 2 127 rfl kj kj fun g51 W17 l51 e17 r51_17=>?_
   have x17:=Ext.tr x16 e17
   have b51:=qT x16.size l51
   refine Qat (fun v W'=>v=.bool true∧Below V1.heap.size W17 W') 20 #[.slice (some ⟨g51,0,none⟩) 2 2] 128 rfl kj kj ((QfN (l0:=xo) (l1:=op.xs) (qT (qT (qT (qT (qT (qT (qT (qT (qT (qR _) e9.size) (qE p10.2.2.2.1.symm)) e11.size) e12.size) q13.2.2.2.1) e14.size) (qE p15.2.2.2.1.symm)) e16.size) e17.size) r51_17 (OwnN.v (OwnN.base (qT (qT (qT (qT (qR _) e9.size) (qE p10.2.2.2.1.symm)) e11.size) e12.size) ((f46_15.ext e16).ext e17))) (OwnN.v (OwnN.base (qT (qT (qT (qR _) e9.size) (qE p10.2.2.2.1.symm)) e11.size) (((((QbY (Qbn.own ⟨gk33,ck33,rfl,ho33⟩) q13 (Qbe (Qbn.own ⟨gk33,ck33,rfl,ho33⟩) (Qau r16_11))).ext e14).puts p15 (Qbe (Qbn.own ⟨gk33,ck33,rfl,ho33⟩) (Qau r13_11))).ext e16).ext e17))) (by omega) (by omega) (Qdq (Qbn.own ⟨gk33,ck33,rfl,ho33⟩) hu41_ (qR _))).mono (by rintro e w' ⟨h1,h2⟩; exact ⟨_,h1,rfl,h2⟩)) fun v59 W18 h59=>?_
   obtain ⟨rfl,l18⟩:=h59
   have x18:=Ext.low x17 l18 xx1.size
   refine sg 2 kj <| sgN hK44 <| cond_false kj <| wp_skip <| hK26 _ _ <| Qai <| Qab (.int .i64 ((i+1:Nat):Int)) 131 rfl kj (Qaf (u:=.int .i64 (IntKind.i64.wrap (((i:Nat):Int)+1))) kj (congrArg (Value.int .i64) (i64n _ _ (by omega) (by omega)))) <| sg 1 kj <| Qao ?_
   have r16_16:=(Qaa r16_15 e16)
   have r16_17:=(Qaa r16_16 e17)
   have r16_18:=(Qbf l18 r16_17 (Qau q16_1))
   have r13_16:=(Qaa r13_15 e16)
   have r13_17:=(Qaa r13_16 e17)
   have r13_18:=(Qbf l18 r13_17 (Qau q13_1))
   repeat (first | with_reducible refine goX1 ?_ | with_reducible refine goX2 ?_ | with_reducible refine goX3 ?_)
   exact Qax ((i+1),n2) ⟨kj,kj,kj,kj,kj,trivial⟩ ⟨(by omega),hn2,r16_18,r13_18,(Qas.low (Qas.step (Qas.step (Qas.puts (Qas.step (Qas.but (Qas.step (Qas.step (Qas.puts (Qas.step q8 e9) p10 (.inr (qT (Qas.size q8) (qT (qR _) l28)))) e11) e12) q13 (.inl (by simp))) e14) p15 (.inl (by simp))) e16) e17) l18 (qT (Qas.size q8) (qR _))),x18⟩ (by omega)
  ·skip
   obtain ⟨xo,bad,n2,hxob,hxol,hn2,hP,hR_⟩:=QfV key num [cx] op.xs hkl hkb hnum hcx (by show 1≤1048576; decide) hobx (by omega)
   refine sgC fun K60 hK60=>sg 3 kj ?_
   have r30_12:=(Qaa r30_11 e12)
   have r16_9:=(Qaa q16_1 e9)
   have r16_10:=(Puts.row p10 r16_9 (Qae q16_1 l28))
   have r16_11:=(Qaa r16_10 e11)
   have r16_12:=(Qaa r16_11 e12)
   have r2_2:=(Qaa r2_1 e2)
   have r2_3:=(Qaa r2_2 e3)
   have r2_4:=(Qaa r2_3 e4)
   have r2_5:=(Puts.row p5 r2_4 (Qae r2_3 l13))
   have r2_6:=(Qaa r2_5 e6)
   have r2_7:=(Qaa r2_6 e7)
   have r2_8:=(Qas.row q8 r2_7 (QaC (Qae r2_3 lc16) (QaC (Qae r2_3 l13) QaS)))
   have r2_9:=(Qaa r2_8 e9)
   have r2_10:=(Puts.row p10 r2_9 (Qae r2_8 l28))
   have r2_11:=(Qaa r2_10 e11)
   have r2_12:=(Qaa r2_11 e12)
   have r1_2:=(Qaa r1_1 e2)
   have r1_3:=(Qaa r1_2 e3)
   have r1_4:=(Qaa r1_3 e4)
   have r1_5:=(Puts.row p5 r1_4 (Qae r1_3 l13))
   have r1_6:=(Qaa r1_5 e6)
   have r1_7:=(Qaa r1_6 e7)
   have r1_8:=(Qas.row q8 r1_7 (QaC (Qae r1_3 lc16) (QaC (Qae r1_3 l13) QaS)))
   have r1_9:=(Qaa r1_8 e9)
   have r1_10:=(Puts.row p10 r1_9 (Qae r1_8 l28))
   have r1_11:=(Qaa r1_10 e11)
   have r1_12:=(Qaa r1_11 e12)
   have r13_9:=(Qaa q13_1 e9)
   have r13_10:=(Puts.row p10 r13_9 (Qae q13_1 l28))
   have r13_11:=(Qaa r13_10 e11)
   have r13_12:=(Qaa r13_11 e12)
   refine Qat (fun v W'=>∃ u,v=.tuple #[u,errV bad]∧OwnN .u8 5 W12.heap.size xo u W'∧ExtB gc16 W12 W'∧W'.heap[gc16]? = some (.cells (cat [ints .u8 (key),#[.bool true],#[.int .i64 ((n2:Nat):Int)]]) 65)) 14 #[.pointer (some ⟨gc16,0,none⟩),.slice (some ⟨g30,0,none⟩) 1 1,.slice (some ⟨gk33,0,none⟩) (op.xs).length ck33] 88 rfl kj kj ((hP gc16 _ _ _ _ th tq _ r2_12 r1_12 r16_12 (QaI (xs:=[(cx)]) (n:=1) rfl r30_12 (Qau r30_12) (show 1≤maxLen from by decide)) (OwnN.rd (Qbn.own ⟨gk33,ck33,rfl,ho33⟩))).mono (by rintro e w' ⟨u,rfl,h1,h2,h3⟩; exact ⟨_,rfl,u,rfl,h1,h2,h3⟩)) fun v W13 h61=>?_
   obtain ⟨u61_,rfl,hu61_,q13,r16_13⟩:=h61
   have x13:=ExtB.up x12 q13 bc16
   obtain ⟨a61_,c61_,rfl,-⟩:=id (OwnN.rd hu61_)
   refine sg 5 kj <| sgN hK60 <| Qai ?_
   have r13_13:=(ExtB.row q13 r13_12 n8c)
   refine Qab (.agg (cat [ints .u8 (List.replicate 32 0),ints .u8 (List.replicate 32 0),#[.bool true],ints .u8 (key),#[.int .i64 ((num:Nat):Int)]])) 92 rfl kj (Qap 31 _ g13 31 _ _ r13_13 rfl kj kj (isz (n:=98) kj (by rw [Qad,Qad,Qad,Qad,Qad]; simp only [qS,cat,((Qac _ _).trans (List.length_replicate (n:=32))),((Qac _ _).trans hkl)]; rfl))) ?_
   refine sg 2 kj ?_
   have r28_13:=(ExtB.row q13 r28_12 (Qa2 q16_1 l28))
   refine Qab (.slice op.a op.xs.length op.c) 95 rfl kj (Qah 33 _ g28 1 35 _ (.slice op.a op.xs.length op.c) _ r28_13 rfl kj kj kj) ?_
   have r30_13:=(ExtB.row q13 r30_12 (Qa2 r16_10 l30))
   refine Qat (fun v W'=>(fun v W=>∃ u,v=.tuple #[u,.agg (cat [ints .u8 (List.replicate 32 0),ints .u8 (List.replicate 32 0),#[.bool true],ints .u8 (key),#[.int .i64 ((n2:Nat):Int)]]),.int .i64 bad]∧OwnN .u8 5 W13.heap.size xo u W) v W'∧Ext W13 W') 15 #[.agg (cat [ints .u8 (List.replicate 32 0),ints .u8 (List.replicate 32 0),#[.bool true],ints .u8 (key),#[.int .i64 ((num:Nat):Int)]]),.slice (some ⟨g30,0,none⟩) 1 1,.slice op.a op.xs.length op.c] 96 rfl kj kj ((hR_ (List.replicate 32 0) (List.replicate 32 0) _ _ _ _ _ (List.length_replicate (n:=32)) (List.length_replicate (n:=32)) (QaI (xs:=[(cx)]) (n:=1) rfl r30_13 (Qau r30_13) (show 1≤maxLen from by decide)) (OpAt.rd (OpAt.ext hop x13))).mono (by rintro e w' ⟨v,rfl,e1,hv⟩; exact ⟨v,rfl,hv,e1⟩)) fun vv62 W14 hh62=>?_
   obtain ⟨hv62,e14⟩:=hh62
   have x14:=Ext.tr x13 e14
   obtain ⟨u63_,rfl,hu63_⟩:=hv62
   obtain ⟨a63_,c63_,rfl,-⟩:=id (OwnN.rd hu63_)
   refine sg 5 kj ?_
   have r13_14:=(Qaa r13_13 e14)
   refine Qal g13 _ (cat [ints .u8 (List.replicate 32 0),ints .u8 (List.replicate 32 0),#[.bool true],ints .u8 (key),#[.int .i64 ((n2:Nat):Int)]]) 31 r13_14 rfl kj (Qan 31 _ _ g13 31 _ _ r13_14 rfl kj kj (isz (n:=98) kj (by rw [Qad,Qad,Qad,Qad,Qad]; simp only [qS,cat,((Qac _ _).trans (List.length_replicate (n:=32))),((Qac _ _).trans hkl)]; rfl)) (eqsz (n:=98) (by rw [Qad,Qad,Qad,Qad,Qad]; simp only [qS,cat,((Qac _ _).trans (List.length_replicate (n:=32))),((Qac _ _).trans hkl)]; rfl) (by rw [Qad,Qad,Qad,Qad,Qad]; simp only [qS,cat,((Qac _ _).trans (List.length_replicate (n:=32))),((Qac _ _).trans hkl)]; rfl)) (Qcl _ (by intro a ha; simp only [List.mem_cons,List.not_mem_nil,or_false] at ha; rcases ha with rfl | rfl | rfl | rfl | rfl; exact (Qav _ _); exact (Qav _ _); exact (QaZ _ rfl); exact (Qav _ _); exact (QaZ _ rfl)))) fun W15 p15 r13_15=>?_
   have x15:=Puts.ext p15 x14 b13
   refine sg 1 kj <| Qao <| hK37 _ _ <| wp_seq_k fun K64 hK64=>QaD 27 [⟨none,[(16,none)]⟩,⟨none,[(100,some 0)]⟩,⟨none,[(13,none)]⟩,⟨none,[(101,some 1),(102,some 2)]⟩,⟨none,[(103,some 3)]⟩,⟨some (104,false),[(14,none),(104,some 4)]⟩,⟨some (104,false),[(15,none),(104,some 4)]⟩,⟨some (104,false),[(105,some 5),(106,some 6),(104,some 4)]⟩,⟨some (104,false),[(107,some 7),(104,some 4)]⟩,⟨none,[(104,some 4),(108,some 8)]⟩,⟨none,[(109,some 9)]⟩,⟨some (110,false),[(7,none),(110,some 10)]⟩,⟨some (110,false),[(111,some 11),(110,some 10)]⟩,⟨some (110,false),[(8,none),(110,some 10)]⟩,⟨some (110,false),[(113,some 13),(110,some 10)]⟩,⟨some (110,false),[(112,some 12),(114,some 14),(110,some 10)]⟩,⟨none,[(110,some 10),(115,some 15)]⟩,⟨none,[(116,some 16)]⟩,⟨some (117,false),[(12,none),(117,some 17)]⟩,⟨some (117,false),[(10,none),(117,some 17)]⟩,⟨some (117,false),[(119,some 19),(117,some 17)]⟩,⟨some (117,false),[(118,some 18),(120,some 20),(117,some 17)]⟩,⟨some (117,false),[(121,some 21),(117,some 17)]⟩,⟨none,[(117,some 17),(122,some 22)]⟩,⟨none,[(123,some 23)]⟩,⟨some (124,false),[(14,none),(124,some 24)]⟩,⟨some (124,false),[(12,none),(124,some 24)]⟩] kj kj fun F hF=>Qar (Qag _) (errV bad) kj kj (fun W=>by kernel_rfl) <| QbS (Qag _) (.int .i64 bad) 16 #[errV bad] kj kj (fun W=>by kernel_rfl) (fun W hR=>(numV bad) W) <| Qar (Qag _) (.int .i64 bad) kj kj (fun W=>by kernel_rfl) <| Qar (Qag _) (.bool false) kj kj (fun W=>(Qaf (u:=.bool ((bad != bad))) kj (congrArg Value.bool (bne_self_eq_false _)))) <| Qar (Qag _) (.bool false) kj kj (fun W=>by kernel_rfl) ?_
   refine Qar (Qag _) (.slice a61_ ((xo).length) c61_) kj kj (fun W=>by kernel_rfl) <| Qar (Qag _) (.slice a63_ ((xo).length) c63_) kj kj (fun W=>by kernel_rfl) ?_
   have f66_15:=((hu61_.ext e14).puts p15 (Qbe hu61_ (Qau r13_12)))
   refine QbS (Qag _) (.bool true) 17 #[.slice a61_ ((xo).length) c61_,.slice a63_ ((xo).length) c63_] kj kj (fun W=>by kernel_rfl) (fun W hR=>(Qi8 _ _ _ _ W rfl (RdK.bytes (RdK.ext (OwnN.rd f66_15) (Rely.Ext.trans (Qak _) hR)) hxob) (RdK.bytes (RdK.ext (OwnN.rd (hu63_.puts p15 (Qbe hu63_ (Qau r13_13)))) (Rely.Ext.trans (Qak _) hR)) hxob))) <| Qar (Qag _) (.bool false) kj kj (fun W=>by kernel_rfl) <| Qar (Qag _) (.bool false) kj kj (fun W=>by kernel_rfl) <| Qar (Qag _) (.bool false) kj kj (fun W=>by kernel_rfl) <| Qar (Qag _) (.pointer (some ⟨gc16,0,none⟩)) kj kj (fun W=>by kernel_rfl) ?_
   have r16_14:=(Qaa r16_13 e14)
   have r16_15:=(Puts.row p15 r16_14 (Ne.symm n8c))
   refine QbS (Qag _) (.int .i64 ((n2:Nat):Int)) 18 #[.pointer (some ⟨gc16,0,none⟩)] kj kj (fun W=>by kernel_rfl) (fun W hR=>(QiH gc16 key n2 W hkl (Qaa (Qaa r16_15 (Qak _)) hR))) <| Qar (Qag _) (.pointer (some ⟨g13,97,none⟩)) kj kj (fun W=>by kernel_rfl) <| QaR (Qag _) (.int .i64 ((n2:Nat):Int)) kj kj (fun W hR=>(Qah 3 _ g13 97 31 _ (.int .i64 ((n2:Nat):Int)) _ (Qaa (Qaa r13_15 (Qak _)) hR) rfl kj (Qa3 [ints .u8 (List.replicate 32 0),ints .u8 (List.replicate 32 0),#[.bool true],ints .u8 (key)] [#[.int .i64 ((n2:Nat):Int)]] [] 97 (by rw [Qad,Qad,Qad,Qad]; simp only [qS,cat,((Qac _ _).trans (List.length_replicate (n:=32))),((Qac _ _).trans hkl)]; rfl) 0 _ rfl) kj)) ?_
   refine Qar (Qag _) (.bool false) kj kj (fun W=>(Qaf (u:=.bool ((((n2:Nat):Int) != ((n2:Nat):Int)))) kj (congrArg Value.bool (bne_self_eq_false _)))) <| Qar (Qag _) (.bool false) kj kj (fun W=>by kernel_rfl) <| Qar (Qag _) (.bool false) kj kj (fun W=>by kernel_rfl) <| Qar (Qag _) (.slice (some ⟨gk33,0,none⟩) (op.xs).length ck33) kj kj (fun W=>by kernel_rfl) <| Qar (Qag _) (.pointer (some ⟨g28,1,none⟩)) kj kj (fun W=>by kernel_rfl) ?_
   have r28_14:=(Qaa r28_13 e14)
   have r28_15:=(Puts.row p15 r28_14 (Qa2 q13_1 l28))
   refine QaR (Qag _) (.slice op.a op.xs.length op.c) kj kj (fun W hR=>(Qah 33 _ g28 1 35 _ (.slice op.a op.xs.length op.c) _ (Qaa (Qaa r28_15 (Qak _)) hR) rfl kj kj kj)) <| QbS (Qag _) (.bool true) 19 #[.slice (some ⟨gk33,0,none⟩) (op.xs).length ck33,.slice op.a op.xs.length op.c] kj kj (fun W=>by kernel_rfl) (fun W hR=>(QiN (op.xs) _ _ _ _ W (by omega) hobx (Qbn.ext (Qbn.ext (show Qbn 5 _ (op.xs) _ _ from ⟨gk33,ck33,rfl,(((QbY ho33 q13 (Qbe ho33 (Qau r16_11))).ext e14).puts p15 (Qbe ho33 (Qau r13_11)))⟩) (Qak _)) hR) (RdK.ext (OpAt.rd (OpAt.ext hop x15)) (Rely.Ext.trans (Qak _) hR)))) <| Qar (Qag _) (.bool false) kj kj (fun W=>by kernel_rfl) <| Qar (Qag _) (.bool false) kj kj (fun W=>by kernel_rfl) <| Qar (Qag _) (.bool false) kj kj (fun W=>by kernel_rfl) <| Qar (Qag _) (.slice a61_ ((xo).length) c61_) kj kj (fun W=>by kernel_rfl) <| Qar (Qag _) (.slice (some ⟨gk33,0,none⟩) (op.xs).length ck33) kj kj (fun W=>by kernel_rfl) <| QbN (hF _ fun W16 e16=>?_)
   simp only [List.nil_append,List.cons_append,List.take_succ_cons,List.take_zero,List.drop_succ_cons,List.drop_zero,finE,up]
   clear hF
   have x16:=Ext.tr x15 e16
   refine Qa7 (#[.slice a61_ ((xo).length) c61_,.slice (some ⟨gk33,0,none⟩) (op.xs).length ck33]) 33 2 127 rfl kj kj fun g71 W17 l71 e17 r71_17=>?_
   have x17:=Ext.tr x16 e17
   have b71:=qT x16.size l71
   refine Qat (fun v W'=>v=.bool true∧Below V1.heap.size W17 W') 20 #[.slice (some ⟨g71,0,none⟩) 2 2] 128 rfl kj kj ((QfN (l0:=xo) (l1:=op.xs) (qT (qT (qT (qT (qT (qT (qT (qT (qT (qR _) e9.size) (qE p10.2.2.2.1.symm)) e11.size) e12.size) q13.2.2.2.1) e14.size) (qE p15.2.2.2.1.symm)) e16.size) e17.size) r71_17 (OwnN.v (OwnN.base (qT (qT (qT (qT (qR _) e9.size) (qE p10.2.2.2.1.symm)) e11.size) e12.size) ((f66_15.ext e16).ext e17))) (OwnN.v (OwnN.base (qT (qT (qT (qR _) e9.size) (qE p10.2.2.2.1.symm)) e11.size) (((((QbY (Qbn.own ⟨gk33,ck33,rfl,ho33⟩) q13 (Qbe (Qbn.own ⟨gk33,ck33,rfl,ho33⟩) (Qau r16_11))).ext e14).puts p15 (Qbe (Qbn.own ⟨gk33,ck33,rfl,ho33⟩) (Qau r13_11))).ext e16).ext e17))) (by omega) (by omega) (Qdq (Qbn.own ⟨gk33,ck33,rfl,ho33⟩) hu61_ (qR _))).mono (by rintro e w' ⟨h1,h2⟩; exact ⟨_,h1,rfl,h2⟩)) fun v79 W18 h79=>?_
   obtain ⟨rfl,l18⟩:=h79
   have x18:=Ext.low x17 l18 xx1.size
   refine sg 2 kj <| sgN hK64 <| cond_false kj <| wp_skip <| hK26 _ _ <| Qai <| Qab (.int .i64 ((i+1:Nat):Int)) 131 rfl kj (Qaf (u:=.int .i64 (IntKind.i64.wrap (((i:Nat):Int)+1))) kj (congrArg (Value.int .i64) (i64n _ _ (by omega) (by omega)))) <| sg 1 kj <| Qao ?_
   have r16_16:=(Qaa r16_15 e16)
   have r16_17:=(Qaa r16_16 e17)
   have r16_18:=(Qbf l18 r16_17 (Qau q16_1))
   have r13_16:=(Qaa r13_15 e16)
   have r13_17:=(Qaa r13_16 e17)
   have r13_18:=(Qbf l18 r13_17 (Qau q13_1))
   repeat (first | with_reducible refine goX1 ?_ | with_reducible refine goX2 ?_ | with_reducible refine goX3 ?_)
   exact Qax ((i+1),n2) ⟨kj,kj,kj,kj,kj,trivial⟩ ⟨(by omega),hn2,r16_18,r13_18,(Qas.low (Qas.step (Qas.step (Qas.puts (Qas.step (Qas.but (Qas.step (Qas.step (Qas.puts (Qas.step q8 e9) p10 (.inr (qT (Qas.size q8) (qT (qR _) l28)))) e11) e12) q13 (.inl (by simp))) e14) p15 (.inl (by simp))) e16) e17) l18 (qT (Qas.size q8) (qR _))),x18⟩ (by omega)
 ·skip
  have heq:i=len:=by have:=of_decide_eq_false c25; omega
  refine wp_exit <| hK21 _ _ <| sgB kj <| wp_ret ?_
  repeat (first | with_reducible refine goR1 ?_ | with_reducible refine goR2 ?_)
  exact (show bodyPost _ _ _ .ret _ _ from ret1 (.bool true) rfl (Qa0 kj) ⟨rfl,xx1⟩)
theorem lawHides (key : List Int) (number:Int) (len cap gT oT:Nat) (ad:Option Addr) (ops:Nat→OpV)  (th tq tsc tsq:TypeId) (w:World) (had:0<len→ad=some ⟨gT,oT,none⟩) (hops:∀ i,i<len→OpAt w gT oT i (ops i)) (hh:w.heap[2]? = some (.cells (ints .u32 [1634760805,857760878,2036477234,1797285236]) th)) (hq:w.heap[3]? = some (.cells (ints .i64 [0,4,8,12,1,5,9,13,2,6,10,14,3,7,11,15,0,5,10,15,1,6,11,12,2,7,8,13,3,4,9,14]) tq)) (hsc:w.heap[1]? = some (.cells (ints .u64 Qb4) tsc)) (hsq:w.heap[0]? = some (.cells (ints .u64 QaV) tsq)) (hkl:key.length=32) (hkb:Qaj key):Calls Tryd.prog 3 #[.agg (ints .u8 key),.int .i64 number,.slice ad len cap] w (Ret w (.bool true)):=by
  by_cases hall:∀ i,i<len→i≤60∧(ops i).xs.length≤500
  · by_cases h1:number<0
    · exact Qmd key number len cap gT oT ad ops th tq tsc tsq w had hops hh hq hsc hsq hkl hkb hall h1
    by_cases h2:4294967295<number
    · exact Qmf key number len cap gT oT ad ops th tq tsc tsq w had hops hh hq hsc hsq hkl hkb hall h2
    obtain ⟨n,rfl⟩:∃ n:Nat,number=(n:Int):=⟨number.toNat,by omega⟩
    exact Qmc key 0 len cap gT oT ad ops th tq tsc tsq w had hops hh hq hsc hsq hkl hkb hall n (by omega)
  · exact Qme key number len cap gT oT ad ops th tq tsc tsq w had hops hh hq hsc hsq hkl hkb hall
end Go.Proofs.YtophlgnnjjkkiaaDoor.Ci
end
section
namespace Go.Proofs.YtophlgnnjjkkiaaDoor.Auto
open Go Go.RowKit
open Rely
theorem chunks {α : Type} (m:Nat):∀ (n:Nat) (cs:List α),cs.length=n*m→((List.range n).map fun i=>(cs.drop (i*m)).take m).flatten=cs
  | 0,cs,h=>by
    have:cs=[]:=List.length_eq_zero_iff.1 (by simpa using h)
    subst this; rfl
  | n+1,cs,h=>by
    have hm:(n+1)*m=n*m+m:=Nat.succ_mul n m
    rw [List.range_succ,List.map_append,List.flatten_append]
    have ih:=chunks m n (cs.take (n*m)) (by rw [List.length_take]; omega)
    have e1:((List.range n).map fun i=>(cs.drop (i*m)).take m)=((List.range n).map fun i=>((cs.take (n*m)).drop (i*m)).take m):=by
      refine List.map_congr_left fun i hi=>?_
      rw [List.mem_range] at hi
      have h1:(i+1)*m≤n*m:=Nat.mul_le_mul_right m hi
      rw [Nat.succ_mul] at h1
      rw [List.drop_take,List.take_take,Nat.min_eq_left (by omega)]
    rw [e1,ih]
    simp only [List.map_cons,List.map_nil,List.flatten_cons,List.flatten_nil,List.append_nil]
    have e2:(cs.drop (n*m)).take m=cs.drop (n*m):=List.take_of_length_le (by rw [List.length_drop]; omega)
    rw [e2,List.take_append_drop]
theorem Qgn {H : Type} {enc:TypeId×Value→H} {P:Program} {w:World} {base:Nat} {sp:Nat→Bool} {held:Bool} {fuel:Nat} {t e i:TypeId} {n m:Nat} {k:IntKind} {cs:List Value} {zss:List (List Int)} {p:List MemPlace}
    (ht:P.underlying t=some (.array n e)) (he:P.underlying e=some (.array m i)) (hi:P.underlying i=some (.int k)) (hci:P.cellsOf i=1) (hce:P.cellsOf e=m) (hct:P.cellsOf t=n*m)
    (h:DataW.trod enc P w base sp held fuel t cs=some (.agg (zss.map (Lib.tabData k)),p)):cs=zss.flatten.map fun z=>Value.int k z:=by
  cases fuel with
  | zero=>simp [DataW.trod] at h
  | succ fuel =>
    simp only [DataW.trod,ht,hce,hct] at h
    split at h
    · rename_i hl
      obtain ⟨xs,hm,hx⟩:=Option.map_eq_some_iff.1 h
      have hxs:xs.map (·.1)=zss.map fun z=>(Lib.tabData k z:DataW H):=by
        have:=congrArg Prod.fst hx
        simpa using this
      have hxl:xs.length=n:=by simpa using Lib.mapM_length hm
      have hzl:zss.length=n:=by
        have:=congrArg List.length hxs
        simp at this
        omega
      rw [←chunks m n cs (by simpa using hl),List.map_flatten]
      congr 1
      apply List.ext_getElem?
      intro j
      by_cases hj:j<n
      · obtain ⟨b,hb,hf⟩:=Lib.mapM_at hm j j (by simp [hj])
        have h2:(xs.map (·.1))[j]? = some b.1:=by simp [hb]
        rw [hxs,List.getElem?_map,List.getElem?_eq_getElem (by omega),Option.map_some,Option.some.injEq] at h2
        have h3:=Lib.cells_of_tab he hi hci hce (zs:=zss[j]'(by omega)) (p:=b.2) (by rw [h2]; exact hf)
        rw [List.getElem?_map,List.getElem?_map,List.getElem?_range hj,List.getElem?_eq_getElem (by omega),Option.map_some,Option.map_some,h3]
      · rw [List.getElem?_eq_none (by simp; omega),List.getElem?_eq_none (by simp; omega)]
    · cases h
theorem QjC {P : Program} {w:World} {laid:List (String×DataW Unit)} {n:String} {k:IntKind} {zss:List (List Int)} {g:Nat} {t e i:TypeId} {m1 m:Nat} (h:laidMet P laid w) (hm:(n,DataW.agg (zss.map (Lib.tabData k)))∈laid)
    (hg:P.globalNamed n=some g) (hty:(P.globals[g]?).map (·.type)=some t) (ht:P.underlying t=some (.array m1 e)) (he:P.underlying e=some (.array m i)) (hi:P.underlying i=some (.int k)) (hci:P.cellsOf i=1) (hce:P.cellsOf e=m) (hct:P.cellsOf t=m1*m) (h0:0<zss.flatten.length) :
    ∃ t,w.heap[g]? = some (.cells (ints k zss.flatten) t):=by
  obtain ⟨ps,hL,-,hC⟩:=h
  obtain ⟨g',t',cs,fuel,p,hg',ht',hvar,hd,hin⟩:=Qei _ _ _ _ hL hm
  obtain rfl:=Option.some.inj (hg.symm.trans hg')
  obtain rfl:=Option.some.inj (hty.symm.trans ht')
  have hcs:=Qgn ht he hi hci hce hct hd
  have hsz:0<cs.size:=by rw [←Array.length_toList,hcs,List.length_map]; exact h0
  obtain ⟨⟨c,t2,hc⟩,-⟩:=hC g 0 (hin _ (List.mem_map.2 ⟨0,List.mem_range.2 hsz,rfl⟩))
  unfold World.var? at hvar
  rw [hg] at hvar
  simp only [Option.bind_some,hc,Option.some.injEq] at hvar
  subst hvar
  refine ⟨t2,hc.trans ?_⟩
  rw [show c=ints k zss.flatten from by rw [ints,←hcs]]
end Go.Proofs.YtophlgnnjjkkiaaDoor.Auto
end
