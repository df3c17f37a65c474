/- Texts of this claim, joined (O1). -/
import Derived.Test.YtdoadngmgmdlbaaDoorZO0

set_option linter.unusedVariables false
set_option linter.unusedSimpArgs false
set_option maxHeartbeats 4000000
section
namespace Go.Proofs.YtdoadngmgmdlbaaDoor.Sha5
open Go Go.RowKit
open Rely Auto Own
theorem Qeu (s : S8) (t u:List Int):∀ n:Nat,128*n≤t.length→absorb s (t++u) n=absorb s t n
  | 0,_=>rfl
  | n+1,h=>by
    show blk (absorb s (t++u) n) _=blk (absorb s t n) _
    rw [Qeu s t u n (by omega)]
    congr 1
    rw [List.drop_append_of_le_length (by omega),List.take_append_of_le_length (by rw [List.length_drop]; omega)]
def HasD (g : Nat) (t:List Int) (W:World):Prop:=∃ b:List Int,b.length=128∧Qaj b∧b.take (t.length%128)=t.drop (128*(t.length/128))∧t.length≤1000000000 ∧
  W.heap[g]? = some (.cells (cat [ints .u64 ((absorb S0 t (t.length/128)).l.map wv),ints .u8 b,#[.int .i64 ((t.length:Nat):Int)]]) 128)
theorem HasD.row {g : Nat} {t:List Int} {W W':World} (h:HasD g t W) (e:W'.heap[g]? = W.heap[g]?):HasD g t W':=by
  obtain ⟨b,h1,h2,h3,h4,h5⟩:=h
  exact ⟨b,h1,h2,h3,h4,e.trans h5⟩
theorem HasD.lt {g : Nat} {t:List Int} {W:World} (h:HasD g t W):g<W.heap.size:=by
  obtain ⟨b,h1,h2,h3,h4,h5⟩:=h
  exact QaB h5
theorem HasD.ext {g : Nat} {t:List Int} {W W':World} (h:HasD g t W) (e:Ext W W'):HasD g t W':=h.row (e.block g h.lt)
theorem HasD.stable (g : Nat) (t:List Int):QbP Ext (fun _=>HasD g t):=fun _ _ _ hR h=>h.ext hR
def into (b z:List Int) (q n:Nat):List Int:=b.take q++z.take n++b.drop (q+n)
theorem Qju {b z:List Int} {q n:Nat} (hb:b.length=128) (hz:n≤z.length) (hq:q+n≤128):(into b z q n).length=128:=by
  simp only [into,List.length_append,List.length_take,List.length_drop]; omega
theorem QeT {b z:List Int} {q n:Nat} (hb:Qaj b) (hz:Qaj z):Qaj (into b z q n):=fun x hx=>by
  rcases List.mem_append.1 hx with hx | hx
  · rcases List.mem_append.1 hx with hx | hx
    · exact hb x (List.mem_of_mem_take hx)
    · exact hz x (List.mem_of_mem_take hx)
  · exact hb x (List.mem_of_mem_drop hx)
theorem QhO {b z t:List Int} {n:Nat} (hb:b.length=128) (hz:n≤z.length) (hp:b.take (t.length%128)=t.drop (128*(t.length/128))):(into b z (t.length%128) n).take (t.length%128+n)=(t++z.take n).drop (128*(t.length/128)):=by
  have e1:(b.take (t.length%128)++z.take n).length=t.length%128+n:=by
    rw [List.length_append,List.length_take,List.length_take]; omega
  unfold into
  rw [←e1,List.take_left,hp,List.drop_append_of_le_length (by omega)]
theorem Ql1 {b z t:List Int} {n:Nat} (hb:b.length=128) (hz:n≤z.length) (hp:b.take (t.length%128)=t.drop (128*(t.length/128))) (hn:t.length%128+n<128) :
    (into b z (t.length%128) n).take ((t++z.take n).length%128)=(t++z.take n).drop (128*((t++z.take n).length/128)):=by
  have hl:(t++z.take n).length=t.length+n:=by rw [List.length_append,List.length_take]; omega
  rw [hl,show (t.length+n)%128=t.length%128+n by omega,show (t.length+n)/128=t.length/128 by omega]
  exact QhO hb hz hp
theorem Ql0 {b z t:List Int} {n:Nat} (hb:b.length=128) (hz:n≤z.length) (hp:b.take (t.length%128)=t.drop (128*(t.length/128))) (hn:t.length%128+n=128) :
    blk (absorb S0 t (t.length/128)) (into b z (t.length%128) n)=absorb S0 (t++z.take n) ((t++z.take n).length/128):=by
  have hl:(t++z.take n).length=t.length+n:=by rw [List.length_append,List.length_take]; omega
  rw [hl,show (t.length+n)/128=t.length/128+1 by omega]
  show _=blk (absorb S0 (t++z.take n) (t.length/128)) _
  rw [Qeu S0 t _ _ (by omega)]
  have h1:=QhO hb hz hp
  rw [hn,List.take_of_length_le (by rw [Qju hb hz (by omega)]; omega)] at h1
  rw [h1,List.take_of_length_le (l:=(t++z.take n).drop (128*(t.length/128))) (by rw [List.length_drop,hl]; omega)]
theorem QjJ {z t:List Int} {n:Nat} (hz:n≤z.length) (hn:t.length%128+n<128):absorb S0 (t++z.take n) ((t++z.take n).length/128)=absorb S0 t (t.length/128):=by
  have hl:(t++z.take n).length=t.length+n:=by rw [List.length_append,List.length_take]; omega
  rw [hl,show (t.length+n)/128=t.length/128 by omega,Qeu S0 t _ _ (by omega)]
section
variable {ds : List Deferred} {ops : Array Oper} {Q : Exit → Act → World → Prop} {rest : List Oper} {o : Oper} {N : Nat} {L : Env} {W : World}
theorem cat3 (a b c:Array Value):(cat [a,b,c]).toList=a.toList++(b.toList++c.toList):=by
  show (a++(b++c)).toList=_
  simp
theorem Qn0 {st b z:List Int} {u:Value} {q n:Nat} (hst:st.length=8) (hb:b.length=128) (hz:n≤z.length) (hq:q+n≤128) :
    ((cat [ints .u64 st,ints .u8 b,#[u]]).toList.take (8+q)++(z.take n).map (Value.int .u8)++(cat [ints .u64 st,ints .u8 b,#[u]]).toList.drop (8+q+n)).toArray=cat [ints .u64 st,ints .u8 (into b z q n),#[u]]:=by
  apply Array.ext'
  rw [cat3,cat3]
  have e1:(ints .u64 st).toList=st.map (Value.int .u64):=rfl
  have e2:∀ b,(ints .u8 b).toList=b.map (Value.int .u8):=fun _=>rfl
  rw [e1,e2,e2]
  have l1:(st.map (Value.int .u64)).length=8:=by simpa using hst
  have l2:(b.map (Value.int .u8)).length=128:=by simpa using hb
  show (st.map (Value.int .u64)++(b.map (Value.int .u8)++[u])).take (8+q)++(z.take n).map (Value.int .u8)++(st.map (Value.int .u64)++(b.map (Value.int .u8)++[u])).drop (8+q+n)=_
  rw [show 8+q+n=8+(q+n) by omega]
  rw [←l1,List.take_length_add_append,List.drop_length_add_append,List.take_append_of_le_length (by omega)]
  rw [List.drop_append_of_le_length (by omega)]
  unfold into
  simp only [List.map_append,List.map_take,List.map_drop,List.append_assoc]
theorem Qk7 (x y:Operand) (tx ty:TypeId) (d:Nat) (ho:o.op=.call { callee:=.builtin .copy,args:=#[x,y],argTypes:=#[tx,ty] }) (hu:Tryd.prog.underlying tx=some (.slice 5)) (hd:o.dst=some d) (hgd:QcJ ops o N L=some true)
    {g q n B:Nat} {st b z:List Int} {u v:Value} {T:TypeId} (hst:st.length=8) (hb:b.length=128) (hx:Rely.look (envN N L) x=.slice (some ⟨g,8+q,none⟩) (128-q) (128-q)) (hy:Rely.look (envN N L) y=v) (hr:RdK .u8 B z v W)
    (hg:W.heap[g]? = some (.cells (cat [ints .u64 st,ints .u8 b,#[u]]) T)) (hq:q<128) (hn:n=min z.length (128-q)) (h0:0<z.length)
    (k:∀ W':World,Puts W g W'→W'.heap[g]? = some (.cells (cat [ints .u64 st,ints .u8 (into b z q n),#[u]]) T)→WL Tryd.prog ops Q rest (Qa5 ds N ((d,.int .i64 ((n:Nat):Int))::L)) W'):WL Tryd.prog ops Q (o::rest) (Qa5 ds N L) W:=by
  obtain ⟨a,cap,rfl,y2,y3,y4,y5⟩:=hr
  obtain ⟨gz,oz,rfl,z2,z3,z4⟩:=y5.resolve_left (fun e=>by rw [e] at h0; simp at h0)
  have hlen:((z.take n).map (Value.int .u8)).length=n:=by simp; omega
  have hsz:(cat [ints .u64 st,ints .u8 b,#[u]]).size=137:=by
    rw [←Array.length_toList,cat3]; simp [ints]; omega
  have h:=run_copy_row (P:=Tryd.prog) W tx ty o.type 5 g (8+q) (128-q) (128-q) ⟨gz,oz,none⟩ z.length cap (cat [ints .u64 st,ints .u8 b,#[u]]) T ((z.take n).map (Value.int .u8)) hu kj hg (by rw [hlen]; exact hn)
    (QmX (k:=.u8) (ys:=z.take n) fun i hi=>by
      rw [List.length_take] at hi
      rw [z4 i (by omega)]
      simp [nth,show i<n by omega]) (by rw [hlen,hsz]; omega) (QmQ .u8 _)
  rw [hlen,Qn0 hst hb (by omega) (by omega)] at h
  refine Qcx (.int .i64 ((n:Nat):Int)) _ d hd hgd ?_ (k _ (QcF _ _ _) (setRow_heap _ _ _ _ _ _ hg))
  unfold execOp
  simp only [ho,resolve,invoke,builtin,Sem.run_bind,Sem.run_pure,Result.andThen_ok,List.map_toArray,List.map_cons,List.map_nil,hx,hy,h,goInt]
theorem QjM {P : Program} {ρ:Operand→Value} {k:IntKind} {B:Nat} {ys:List Int} {v:Value} (t:TypeId) (x z:Operand) (l n:Nat) (e:TypeId) (ho:o.op=.slice t x (some z) none none) (hx:ρ x=v) (hv:RdK k B ys v W)
    (hu:P.underlying t=some (.slice e)) (hs:(P.info? e).map (·.size)=some 1) (kz:IntKind) (hz:ρ z=.int kz (l:Int)) (h1:l≤ys.length) (hn:ys.length-l=n) :
    ∃ a c,(execOp ρ o).run P W=.ok (.value (.slice a n c)) W∧RdK k B (ys.drop l) (.slice a n c) W∧(Value.slice a n c).ownBlock=v.ownBlock:=by
  obtain ⟨u,h2,h3,h5⟩:=QgE t x z l e ho hx hv hu hs kz hz h1
  obtain ⟨a,c,rfl,h4⟩:=id h3
  rw [List.length_drop,hn] at h2 h3 h5
  exact ⟨a,c,h2,h3,h5⟩
end
section
variable {ds : List Deferred} {ops : Array Oper} {Q : Exit → Act → World → Prop} {rest : List Oper} {o : Oper} {N : Nat} {L : Env} {W : World}
theorem QgB {P : Program} {k:IntKind} {B:Nat} {ys:List Int} {v:Value} (t:TypeId) (x z:Operand) (l n:Nat) (e:TypeId) (d:Nat) (ho:o.op=.slice t x (some z) none none) (hd:o.dst=some d) (hg:QcJ ops o N L=some true) (hx:Rely.look (envN N L) x=v) (hv:RdK k B ys v W)
    (hu:P.underlying t=some (.slice e)) (hs:(P.info? e).map (·.size)=some 1) (kz:IntKind) (hz:Rely.look (envN N L) z=.int kz (l:Int)) (h1:l≤ys.length) (hn:ys.length-l=n)
    (kk:∀ a c,RdK k B (ys.drop l) (.slice a n c) W→(Value.slice a n c).ownBlock=v.ownBlock→WL P ops Q rest (Qa5 ds N ((d,.slice a n c)::L)) W):WL P ops Q (o::rest) (Qa5 ds N L) W:=by
  obtain ⟨a,c,h2,h3,h4⟩:=QjM (ρ:=Rely.look (envN N L)) t x z l n e ho hx hv hu hs kz hz h1 hn
  exact Qcx _ _ d hd hg h2 (kk a c h3 h4)
end
theorem QjO {P : Program} {ρ:Operand→Value} {o:Oper} {w:World} (ty:TypeId) (x y:Operand) (g off:Nat) (t:TypeId) (pre post:List (Array Value)) (u v:Value) (hg:w.heap[g]? = some (.cells (cat (pre++([#[u]]++post))) t))
    (ho:o.op=.store ty x y) (hx:ρ x=.pointer (some ⟨g,off,none⟩)) (hy:ρ y=v) (hi:(P.info? ty).map (·.size)=some 1) (hp:(cat pre).size=off) (h1:v.oneCell'=true) (hcs:v.cells=#[v]) :
    (execOp ρ o).run P w=.ok .skip (w.setRow g (cat (pre++([#[v]]++post)))):=by
  subst hp
  have hs:Nat.blt (cat pre).size (cat (pre++([#[u]]++post))).size=true:=by
    have:(cat pre).size<(cat (pre++([#[u]]++post))).size:=by
      rw [Qba,Qba,qS,qS]
      have e1:(cat [#[u]]).size=1:=rfl
      omega
    simpa using this
  have e:(cat (pre++([#[u]]++post))).setIfInBounds (cat pre).size v=cat (pre++([#[v]]++post)):=by
    rw [Qba,Qba,Qba,Qba]
    have e1:∀ z,cat [#[z]]=#[z]:=fun z=>rfl
    rw [e1,e1,Array.setIfInBounds_append_right (qR _),Nat.sub_self,Array.setIfInBounds_append_left (by simp)]
    rfl
  rw [←e]
  exact Qel ty x y g _ t _ v hg ho hx hy hi hs h1 hcs
end Go.Proofs.YtdoadngmgmdlbaaDoor.Sha5
end
section
namespace Go.Proofs.YtdoadngmgmdlbaaDoor.Sha5
open Go Go.RowKit
open Rely Auto Own
theorem addC (g B:Nat) (t ys:List Int) (v:Value) (tc:TypeId) (w:World) (hc:w.heap[5]? = some (.cells (ints .u64 Qc8) tc)) (hcg:5≠g) (hB:ys=[]∨v.ownBlock≠some g) (hyb:Qaj ys) (hlen:t.length+ys.length≤1000000000) (hd:HasD g t w) (hy:RdK .u8 B ys v w) :
  Calls Tryd.prog 79 #[.pointer (some ⟨g,0,none⟩),v] w (fun e W=>e=.returned (.tuple #[])∧ExtB g w W∧HasD g (t++ys) W):=by
 obtain ⟨a0,c0,rfl,-⟩:=id hy
 refine enter 38 [(0,.pointer (some ⟨g,0,none⟩)),(1,.slice a0 ys.length c0)] Tryd.func79 rfl rfl kj rfl <| wp_block ?_
 have hyb2:∀ {k:Nat},Qaj (ys.drop k):=fun x hx=>hyb x (List.mem_of_mem_drop hx)
 refine QaN (fun (s1:Nat×Option Addr×Nat)=>[(0,.pointer (some ⟨g,0,none⟩)),(1,.slice s1.2.1 (ys.length-s1.1) s1.2.2)]) (fun (s1:Nat×Option Addr×Nat) W=>(s1.1≤ys.length)∧(RdK .u8 B (ys.drop s1.1) (.slice s1.2.1 (ys.length-s1.1) s1.2.2) W)∧(s1.1<ys.length→(Value.slice s1.2.1 (ys.length-s1.1) s1.2.2).ownBlock≠some g)∧(HasD g (t++ys.take s1.1) W)∧(ExtB g w W)) (fun (s1:Nat×Option Addr×Nat)=>ys.length-s1.1) (0,a0,c0) ⟨kj,kj,trivial⟩ ⟨(Nat.zero_le _),hy,(fun h=>hB.resolve_left (fun e=>by rw [e] at h; exact absurd h (Nat.lt_irrefl _))),(by simpa using hd),(ExtB.refl g w)⟩ fun s1 X1 V1 hI1=>?_
 obtain ⟨k,a,c⟩:=s1
 obtain ⟨hk,hr,hnb,hD,xx1⟩:=hI1
 replace hk:k≤ys.length:=hk
 replace hr:RdK .u8 B (ys.drop k) (.slice a (ys.length-k) c) V1:=hr
 replace hnb:k<ys.length→(Value.slice a (ys.length-k) c).ownBlock≠some g:=hnb
 replace hD:HasD g (t++ys.take k) V1:=hD
 replace xx1:ExtB g w V1:=xx1
 refine wp_seq_k fun K3 hK3=>sgB kj <| QaD (t:=decide (((ys.length-k:Nat):Int)>0)) kj (fun c5=>?_) (fun c5=>?_)
 ·skip
  have hk2:k<ys.length:=by have:=of_decide_eq_true c5; omega
  obtain ⟨b,hbl,hbb,hbp,hmany,hrow⟩:=hD
  obtain ⟨t1,ht1⟩:∃ z,z=t++ys.take k:=⟨_,rfl⟩
  rw [←ht1] at hbp hmany hrow
  have hlt1:t1.length=t.length+k:=by rw [ht1,List.length_append,List.length_take]; omega
  obtain ⟨m,hm⟩:∃ z,z=t1.length:=⟨_,rfl⟩
  obtain ⟨s,hs⟩:∃ z,z=absorb S0 t1 (t1.length/128):=⟨_,rfl⟩
  obtain ⟨n,hn⟩:∃ z,z=min (ys.drop k).length (128-m%128):=⟨_,rfl⟩
  have hn0:0<n:=by rw [hn,List.length_drop]; omega
  have hn1:n≤ys.length-k:=by rw [hn,List.length_drop]; omega
  have hn2:n≤128-m%128:=by rw [hn]; omega
  rw [←hs,←hm] at hrow
  replace hrow:V1.heap[g]? = some (.cells (cat [ints .u64 ([wv s.a,wv s.b,wv s.c,wv s.d,wv s.e,wv s.f,wv s.g,wv s.h]),ints .u8 (b),#[.int .i64 ((m:Nat):Int)]]) 128):=hrow
  refine wp_skip <| hK3 _ _ <| wp_block <| wp_seq_k fun K6 hK6=>Qbk 10 [⟨none,[(0,none)]⟩,⟨none,[(8,some 0)]⟩,⟨none,[(9,some 1)]⟩,⟨none,[(0,none)]⟩,⟨none,[(11,some 3)]⟩,⟨none,[(12,some 4)]⟩,⟨none,[(13,some 5)]⟩,⟨none,[(14,some 6)]⟩,⟨none,[(10,some 2),(15,some 7)]⟩,⟨none,[(1,none)]⟩] kj kj fun F hF=>QaK (Qau _) (.pointer (some ⟨g,0,none⟩)) kj kj (fun W=>kj) <| QaK (Qau _) (.pointer (some ⟨g,0,none⟩)) kj kj (fun W=>kj) <| QaK (Qau _) (.pointer (some ⟨g,8,none⟩)) kj kj (fun W=>kj) <| QaK (Qau _) (.pointer (some ⟨g,0,none⟩)) kj kj (fun W=>kj) <| QaK (Qau _) (.pointer (some ⟨g,0,none⟩)) kj kj (fun W=>kj) ?_
  refine QaK (Qau _) (.pointer (some ⟨g,136,none⟩)) kj kj (fun W=>kj) <| Qb1 (Qau _) (.int .i64 ((m:Nat):Int)) kj kj (fun W hR=>(Qak 3 _ g 136 128 _ (.int .i64 ((m:Nat):Int)) _ (Qaa (Qaa hrow (Qae _)) hR) rfl kj (QaH [ints .u64 ([wv s.a,wv s.b,wv s.c,wv s.d,wv s.e,wv s.f,wv s.g,wv s.h]),ints .u8 (b)] [#[.int .i64 ((m:Nat):Int)]] [] 136 (by rw [Qco,Qco]; simp only [qS,cat,((Qad _ _).trans hbl)]; rfl) 0 _ rfl) kj)) ?_
  refine QaK (Qau _) (.int .i64 ((m%128:Nat):Int)) kj kj (fun W=>(Qam (u:=.int .i64 (Int.tmod (((m:Nat):Int)) (128))) kj (congrArg (Value.int .i64) (Qdc _ 128)))) <| QaK (Qau _) (.slice (some ⟨g,8+(m%128),none⟩) (128-(m%128)) (128-(m%128))) kj kj (fun W=>(QbA 126 _ _ _ (m%128) 128 128 g 8 5 rfl kj kj kj ⟨.i64,kj⟩ rfl (by omega) (by omega) (by omega))) <| QaK (Qau _) (.slice a (ys.length-k) c) kj kj (fun W=>kj) <| QdL (hF _ fun W2 e2=>?_)
  simp only [List.nil_append,List.cons_append,List.take_succ_cons,List.take_zero,List.drop_succ_cons,List.drop_zero,finE,up]
  clear hF
  have f7_2:=(hr.ext e2)
  have hbl2:(into b (ys.drop k) (m%128) n).length=128:=Qju hbl (by rw [List.length_drop]; omega) (by omega)
  refine Qk7 (.tmp 16) (.tmp 17) 27 27 18 rfl kj rfl kj (q:=m%128) (n:=n) (b:=b) rfl hbl kj kj f7_2 (Qaa hrow e2) (by omega) hn (by rw [List.length_drop]; omega) fun W3 p3 r2_3=>?_
  refine sg 1 kj <| sgN hK6 <| sgC fun K8 hK8=>sg 2 kj <| QgB 27 (.tmp 19) (.tmp 20) n (ys.length-k-n) 5 21 rfl rfl kj kj (f7_2.putsN p3 (hnb hk2)) kj kj .i64 kj (by rw [List.length_drop]; omega) (by rw [List.length_drop]) fun a2 c2 hr2 hob=>?_
  have hnb2:(Value.slice a2 (ys.length-k-n) c2).ownBlock≠some g:=by rw [hob]; exact hnb hk2
  refine sg 1 kj <| sgN hK8 <| sgC fun K10 hK10=>sg 3 kj <| Qag (.int .i64 ((m:Nat):Int)) 25 rfl kj (Qak 3 _ g 136 128 _ (.int .i64 ((m:Nat):Int)) _ r2_3 rfl kj (QaH [ints .u64 ([wv s.a,wv s.b,wv s.c,wv s.d,wv s.e,wv s.f,wv s.g,wv s.h]),ints .u8 (into b (ys.drop k) (m%128) n)] [#[.int .i64 ((m:Nat):Int)]] [] 136 (by rw [Qco,Qco]; simp only [qS,cat,((Qad _ _).trans hbl2)]; rfl) 0 _ rfl) kj) ?_
  refine sg 1 kj <| Qag (.int .i64 ((m+n:Nat):Int)) 27 rfl kj (Qam (u:=.int .i64 (IntKind.i64.wrap (((m:Nat):Int)+((n:Nat):Int)))) kj (congrArg (Value.int .i64) (i64n _ _ (by omega) (by omega)))) <| sg 2 kj <| Qai g _ (cat [ints .u64 ([wv s.a,wv s.b,wv s.c,wv s.d,wv s.e,wv s.f,wv s.g,wv s.h]),ints .u8 (into b (ys.drop k) (m%128) n),#[.int .i64 ((m+n:Nat):Int)]]) 128 r2_3 rfl kj (QjO 3 _ _ g 136 128 [ints .u64 ([wv s.a,wv s.b,wv s.c,wv s.d,wv s.e,wv s.f,wv s.g,wv s.h]),ints .u8 (into b (ys.drop k) (m%128) n)] [] _ (.int .i64 ((m+n:Nat):Int)) r2_3 rfl kj kj kj (by rw [Qco,Qco]; simp only [qS,cat,((Qad _ _).trans hbl2)]; rfl) rfl rfl) fun W4 p4 r2_4=>?_
  have x4:=ExtB.puts (ExtB.puts (ExtB.ext xx1 e2) p3) p4
  refine sgN hK10 <| sgC fun K11 hK11=>sg 3 kj <| Qag (.int .i64 ((m+n:Nat):Int)) 33 rfl kj (Qak 3 _ g 136 128 _ (.int .i64 ((m+n:Nat):Int)) _ r2_4 rfl kj (QaH [ints .u64 ([wv s.a,wv s.b,wv s.c,wv s.d,wv s.e,wv s.f,wv s.g,wv s.h]),ints .u8 (into b (ys.drop k) (m%128) n)] [#[.int .i64 ((m+n:Nat):Int)]] [] 136 (by rw [Qco,Qco]; simp only [qS,cat,((Qad _ _).trans hbl2)]; rfl) 0 _ rfl) kj) ?_
  refine Qag (.int .i64 (((m+n)%128:Nat):Int)) 34 rfl kj (Qam (u:=.int .i64 (Int.tmod (((m+n:Nat):Int)) (128))) kj (congrArg (Value.int .i64) (Qdc _ 128))) <| sg 1 kj <| sgN hK11 <| QaD (t:=((((m+n)%128:Nat):Int)==0)) kj (fun c12=>?_) (fun c12=>?_)
  ·skip
   have hmod:(m+n)%128=0:=by have:=c12; have h2:=eq_of_beq this; omega
   refine Qat <| sg 1 kj <| QbC (fun v W'=>v=.tuple #[]∧ExtB g W4 W'∧W'.heap[g]? = some (.cells (cat [ints .u64 ((blk s (into b (ys.drop k) (m%128) n)).l.map wv),ints .u8 (into b (ys.drop k) (m%128) n),#[.int .i64 ((m+n:Nat):Int)]]) 128)) 96 #[.pointer (some ⟨g,0,none⟩)] 37 rfl kj kj ((QqX g s _ hbl2 (QeT hbb hyb2) _ tc _ (Puts.row p4 (Puts.row p3 (Qaa (ExtB.row xx1 hc hcg) e2) hcg) hcg) r2_4).mono fun e w' h=>⟨_,h.1,rfl,h.2⟩) fun v W5 h=>?_
   obtain ⟨rfl,q5,r2_5⟩:=h
   refine Qa7 ?_
   have hr3:RdK .u8 B (ys.drop (k+n)) (.slice a2 (ys.length-(k+n)) c2) W5:=by
    have h:=((hr2.putsN p4 hnb2).extN q5 hnb2)
    rw [List.drop_drop,show ys.length-k-n=ys.length-(k+n) by omega] at h
    exact h
   have hlen3:(t1++(ys.drop k).take n).length=m+n:=by rw [List.length_append,List.length_take,List.length_drop]; omega
   have hnb3:(Value.slice a2 (ys.length-(k+n)) c2).ownBlock≠some g:=by rw [show ys.length-(k+n)=ys.length-k-n by omega]; exact hnb2
   have hT:t++ys.take (k+n)=t1++(ys.drop k).take n:=by rw [ht1,List.append_assoc,List.take_add]
   have hzn:n≤(ys.drop k).length:=by rw [List.length_drop]; omega
   have hb0:(into b (ys.drop k) (m%128) n).take ((t++ys.take (k+n)).length%128)=(t++ys.take (k+n)).drop (128*((t++ys.take (k+n)).length/128)):=by
    rw [hT,hlen3,hmod,List.take_zero,List.drop_of_length_le (by omega)]
   have hst:blk s (into b (ys.drop k) (m%128) n)=absorb S0 (t++ys.take (k+n)) ((t++ys.take (k+n)).length/128):=by rw [hT,hs,hm]; exact Ql0 hbl hzn hbp (by omega)
   have hD2:HasD g (t++ys.take (k+n)) W5:=⟨_,hbl2,QeT hbb hyb2,hb0,by rw [hT,hlen3]; omega,by rw [←hst,hT,hlen3]; exact r2_5⟩
   repeat (first | with_reducible refine goX1 ?_ | with_reducible refine goX2 ?_ | with_reducible refine goX3 ?_)
   exact QaI (k+n,a2,c2) ⟨kj,(congrArg (fun z=>Value.slice a2 z c2) (by omega)),trivial⟩ ⟨(by omega),hr3,(fun _=>hnb3),hD2,(ExtB.trans x4 q5)⟩ (by show ys.length-(k+n)<ys.length-k; omega)
  ·skip
   have hmod:¬ (m+n)%128=0:=by have:=c12; intro h0; rw [h0] at this; exact absurd this (by decide)
   refine wp_skip ?_
   have hr3:RdK .u8 B (ys.drop (k+n)) (.slice a2 (ys.length-(k+n)) c2) W4:=by
    have h:=(hr2.putsN p4 hnb2)
    rw [List.drop_drop,show ys.length-k-n=ys.length-(k+n) by omega] at h
    exact h
   have hlen3:(t1++(ys.drop k).take n).length=m+n:=by rw [List.length_append,List.length_take,List.length_drop]; omega
   have hnb3:(Value.slice a2 (ys.length-(k+n)) c2).ownBlock≠some g:=by rw [show ys.length-(k+n)=ys.length-k-n by omega]; exact hnb2
   have hT:t++ys.take (k+n)=t1++(ys.drop k).take n:=by rw [ht1,List.append_assoc,List.take_add]
   have hzn:n≤(ys.drop k).length:=by rw [List.length_drop]; omega
   have hb0:(into b (ys.drop k) (m%128) n).take ((t++ys.take (k+n)).length%128)=(t++ys.take (k+n)).drop (128*((t++ys.take (k+n)).length/128)):=by
    rw [hT,hm]; exact Ql1 hbl hzn hbp (by omega)
   have hst:s=absorb S0 (t++ys.take (k+n)) ((t++ys.take (k+n)).length/128):=by rw [hT,hs]; exact (QjJ hzn (by omega)).symm
   have hD2:HasD g (t++ys.take (k+n)) W4:=⟨_,hbl2,QeT hbb hyb2,hb0,by rw [hT,hlen3]; omega,by rw [←hst,hT,hlen3]; exact r2_4⟩
   repeat (first | with_reducible refine goX1 ?_ | with_reducible refine goX2 ?_ | with_reducible refine goX3 ?_)
   exact QaI (k+n,a2,c2) ⟨kj,(congrArg (fun z=>Value.slice a2 z c2) (by omega)),trivial⟩ ⟨(by omega),hr3,(fun _=>hnb3),hD2,x4⟩ (by show ys.length-(k+n)<ys.length-k; omega)
 ·skip
  have hk2:k=ys.length:=by have:=of_decide_eq_false c5; omega
  refine wp_exit ?_
  repeat (first | with_reducible refine goX1 ?_ | with_reducible refine goX2 ?_ | with_reducible refine goX3 ?_)
  exact (show bodyPost _ _ _ .normal _ _ from end0 rfl ⟨rfl,xx1,by rw [hk2,List.take_length] at hD; exact hD⟩)
end Go.Proofs.YtdoadngmgmdlbaaDoor.Sha5
end
section
namespace Go.Proofs.YtdoadngmgmdlbaaDoor.Sha5
open Go Go.RowKit
open Rely Auto Own
theorem Qer (n : Nat):Qaj (List.replicate n 0):=fun x hx=>by
  have:=List.eq_of_mem_replicate hx
  subst this; decide
theorem Qpt (n : Nat):(128-(n+1+16)%128)%128=fillN n:=by unfold fillN; omega
theorem QpM (n : Nat) (h:n≤1000000000):IntKind.u64.wrap ((n:Nat):Int)=((n:Nat):Int):=by
  have:∀ z:Int,IntKind.u64.wrap z=z%2^64:=fun _=>rfl
  rw [this]; omega
theorem QqV (n : Nat) (h:n≤1000000000):IntKind.u64.wrap (((n:Nat):Int)*2^min (3:Int).toNat IntKind.u64.bits)=((8*n:Nat):Int):=by
  have:∀ z:Int,IntKind.u64.wrap z=z%2^64:=fun _=>rfl
  rw [this,show ((2:Int)^min (3:Int).toNat IntKind.u64.bits)=8 from rfl]; omega
theorem QpO (n : Nat) (h:n≤1000000000):((n:Nat):Int).fdiv (2^min (61:Int).toNat IntKind.u64.bits)=0:=by
  rw [Int.fdiv_eq_ediv_of_nonneg _ (by decide),show ((2:Int)^min (61:Int).toNat IntKind.u64.bits)=2305843009213693952 from rfl]; omega
theorem Qp2 (m : Nat):IntKind.u8.wrap ((m:Nat):Int)=((m%256:Nat):Int):=by
  have:∀ z:Int,IntKind.u8.wrap z=z%2^8:=fun _=>rfl
  rw [this]; omega
theorem Qra (n i:Nat):((8*n/256^i:Nat):Int).fdiv (2^min (8:Int).toNat IntKind.u64.bits)=((8*n/256^(i+1):Nat):Int):=by
  rw [Int.fdiv_eq_ediv_of_nonneg _ (by decide),show ((2:Int)^min (8:Int).toNat IntKind.u64.bits)=256 from rfl,Nat.pow_succ,←Nat.div_div_eq_div_mul]; omega
theorem lowlt (n i:Nat) (h:n≤1000000000):8*n/256^(i+1)<18446744073709551616:=Nat.lt_of_le_of_lt (Nat.div_le_self _ _) (by omega)
theorem or0 (m : Nat) (h:m<18446744073709551616):bits .or .u64 ((m:Nat):Int) 0=((m:Nat):Int):=by
  have:=bits_or_u64_nat m 0 h (by decide)
  rw [Nat.or_zero] at this
  exact this
def be16 (n : Nat):List Int:=List.replicate 8 0++be8 n
def padL (n i:Nat):List Int:=128::(List.replicate (fillN n) 0++(List.replicate (16-i) 0++(be16 (8*n)).drop (16-i)))
theorem QmG (n : Nat) {i:Nat} (h:i≤16):(padL n i).length=1+fillN n+16:=by
  have:(be16 (8*n)).length=16:=rfl
  simp [padL,this]; omega
theorem Qe1 (n : Nat):(tailP n).length=1+fillN n+16:=by
  have:(be8 (8*n)).length=8:=rfl
  simp [tailP,this]; omega
theorem Qqn (n : Nat):(List.replicate (1+fillN n+16) (0:Int)).set 0 128=padL n 0:=by
  rw [show 1+fillN n+16=(fillN n+16)+1 by omega,List.replicate_succ,List.set_cons_zero,←List.replicate_append_replicate]
  rfl
theorem QqC (n i:Nat) (hn:n≤1000000000) (h:8≤i):8*n/256^i%256=0:=by
  have h1:256^8≤256^i:=Nat.pow_le_pow_right (by decide) h
  rw [Nat.div_eq_of_lt (qL (show 8*n<256^8 by omega) h1)]
theorem QmF (n i:Nat) (hn:n≤1000000000) (h:i<16):(padL n i).set (1+fillN n+16-1-i) ((8*n/256^i%256:Nat):Int)=padL n (i+1):=by
  unfold padL
  rw [show 1+fillN n+16-1-i=(fillN n+(15-i))+1 by omega,List.set_cons_succ,List.set_append_right _ _ (by simp),qZ,Nat.add_sub_cancel_left]
  congr 2
  rcases Nat.lt_or_ge i 8 with q | q
  · match i,q with
    | 0,_=>rfl
    | 1,_=>rfl
    | 2,_=>rfl
    | 3,_=>rfl
    | 4,_=>rfl
    | 5,_=>rfl
    | 6,_=>rfl
    | 7,_=>rfl
  · rw [QqC n i hn q]
    rcases (show i=8∨i=9∨i=10∨i=11∨i=12∨i=13∨i=14∨i=15 by omega) with rfl | rfl | rfl | rfl | rfl | rfl | rfl | rfl <;> rfl
theorem QmC (n : Nat) (hn:n≤1000000000) (w:World):Calls Tryd.prog 97 #[.int .i64 ((n:Nat):Int),.int .i64 128,.int .i64 16] w (Qgc w (OwnN .u8 5 w.heap.size (tailP n))):=by
 have hF:fillN n<128:=by unfold fillN; omega
 refine enter 59 [(0,.int .i64 ((n:Nat):Int)),(1,.int .i64 128),(2,.int .i64 16)] Tryd.func97 rfl rfl kj rfl <| sgB kj <| sgC fun K2 hK2=>sg 2 kj <| Qag (.int .i64 ((n+1:Nat):Int)) 15 rfl kj (Qam (u:=.int .i64 (IntKind.i64.wrap (((n:Nat):Int)+1))) kj (congrArg (Value.int .i64) (i64n _ _ (by omega) (by omega)))) <| sg 1 kj <| Qag (.int .i64 (((n+1)+16:Nat):Int)) 17 rfl kj (Qam (u:=.int .i64 (IntKind.i64.wrap (((n+1:Nat):Int)+16))) kj (congrArg (Value.int .i64) (i64n _ _ (by omega) (by omega)))) <| sg 1 kj <| Qag (.int .i64 ((((n+1)+16)%128:Nat):Int)) 19 rfl kj (Qam (u:=.int .i64 (Int.tmod ((((n+1)+16:Nat):Int)) (128))) kj (congrArg (Value.int .i64) (Qdc _ 128))) <| Qag (.int .i64 ((128-(((n+1)+16)%128):Nat):Int)) 20 rfl kj (Qam (u:=.int .i64 (IntKind.i64.wrap (128-((((n+1)+16)%128:Nat):Int)))) kj (congrArg (Value.int .i64) (i64n _ _ (by omega) (by omega)))) ?_
 refine sg 1 kj <| Qag (.int .i64 (((fillN n:Nat):Int))) 22 rfl kj (Qam (u:=.int .i64 (Int.tmod (((128-(((n+1)+16)%128):Nat):Int)) (128))) kj (congrArg (Value.int .i64) ((Qdc _ 128).trans (congrArg (fun z:Nat=>(z:Int)) (Qpt n))))) <| sg 1 kj <| sgN hK2 <| sgC fun K3 hK3=>sg 1 kj <| Qag (.int .i64 ((1+(fillN n):Nat):Int)) 24 rfl kj (Qam (u:=.int .i64 (IntKind.i64.wrap (1+(((fillN n:Nat):Int))))) kj (congrArg (Value.int .i64) (i64n _ _ (by omega) (by omega)))) <| sg 1 kj <| Qag (.int .i64 (((1+(fillN n))+16:Nat):Int)) 26 rfl kj (Qam (u:=.int .i64 (IntKind.i64.wrap (((1+(fillN n):Nat):Int)+16))) kj (congrArg (Value.int .i64) (i64n _ _ (by omega) (by omega)))) <| QaW (ints .u8 (List.replicate ((1+(fillN n))+16) 0)) 5 ((1+(fillN n))+16) 27 rfl kj (Qf6 27 _ _ .i64 .i64 ((1+(fillN n))+16) 5 rfl kj kj kj (.inr kj) (by omega)) fun g4 W1 l4 e1 r4_1=>?_
 have b4:=qT (Rely.Ext.refl w).size l4
 refine sg 1 kj <| sgN hK3 <| sgC fun K5 hK5=>sg 1 kj <| Qag (.pointer (some ⟨g4,0,none⟩)) 29 rfl kj (QaT 27 _ _ .i64 (0) g4 ((1+(fillN n))+16) ((1+(fillN n))+16) 5 rfl kj kj kj kj (by omega)) <| Qai g4 _ (ints .u8 ((List.replicate ((1+(fillN n))+16) 0).set 0 128)) 5 r4_1 rfl kj (Qaz 5 _ _ g4 0 5 _ _ r4_1 rfl kj kj kj (Nat.lt_of_lt_of_eq (by omega) (qZ (n:=((1+(fillN n))+16))).symm)) fun W2 p2 r4_2=>sgN hK5 <| sgC fun K6 hK6=>sg 1 kj <| Qag (.int .u64 (((n:Nat):Int))) 31 rfl kj (Qam (u:=.int .u64 (IntKind.u64.wrap ((n:Nat):Int))) kj (congrArg (Value.int .u64) (QpM n (by omega)))) ?_
 refine Qag (.int .u64 (((8*n:Nat):Int))) 32 rfl kj (Qby .shl _ _ _ _ .u64 .u64 _ _ _ rfl kj kj (QlV _ _ _ _ _ _ (by decide) (QqV n (by omega)))) <| sg 1 kj <| Qag (.int .u64 (((n:Nat):Int))) 34 rfl kj (Qam (u:=.int .u64 (IntKind.u64.wrap ((n:Nat):Int))) kj (congrArg (Value.int .u64) (QpM n (by omega)))) <| Qag (.int .u64 (0)) 35 rfl kj (Qby .shr _ _ _ _ .u64 .u64 _ _ _ rfl kj kj (Qdo _ _ _ _ _ _ (by decide) (QpO n (by omega)))) <| sg 2 kj <| sgN hK6 <| wp_seq_k fun K7 hK7=>sgB kj <| wp_block <| QaN (fun (s1:Nat)=>[(8,.slice (some ⟨g4,0,none⟩) ((1+(fillN n))+16) ((1+(fillN n))+16)),(9,.int .u64 ((8*n/256^s1:Nat):Int)),(10,.int .u64 0),(36,.int .i64 16),(37,.int .i64 ((s1:Nat):Int))]) (fun (s1:Nat) W=>(s1≤16)∧(W.heap[g4]? = some (.cells (ints .u8 (padL n s1)) 5))∧(QaE [g4] W2 W)∧(Ext w W)) (fun (s1:Nat)=>16-s1) 0 ⟨kj,(congrArg (fun z:Nat=>Value.int .u64 (z:Int)) (Nat.div_one _).symm),kj,kj,kj,trivial⟩ ⟨(Nat.zero_le _),(QaJ r4_2 (Qqn n)),(QaE.refl [g4] W2),(Puts.ext p2 (Ext.tr (Rely.Ext.refl w) e1) b4)⟩ fun s1 X1 V1 hI1=>?_
 obtain ⟨i,hs1⟩:∃ z,z=s1:=⟨_,rfl⟩
 subst hs1
 obtain ⟨hi,q4_1,kk1,xx1⟩:=hI1
 replace hi:i≤16:=hi
 replace q4_1:V1.heap[g4]? = some (.cells (ints .u8 (padL n i)) 5):=q4_1
 replace kk1:QaE [g4] W2 V1:=kk1
 replace xx1:Ext w V1:=xx1
 have q3:=kk1
 refine sgB kj <| wp_seq_k fun K10 hK10=>QaD (t:=decide (((i:Nat):Int)<16)) kj (fun c11=>?_) (fun c11=>?_)
 ·skip
  have hlt38:i<16:=by have:=of_decide_eq_true c11; omega
  refine wp_skip <| hK10 _ _ <| wp_seq_k fun K12 hK12=>wp_block <| sgB kj <| sgC fun K14 hK14=>sg 1 kj <| Qag (.int .u8 (((8*n/256^i%256:Nat):Int))) 41 rfl kj (Qam (u:=.int .u8 (IntKind.u8.wrap ((8*n/256^i:Nat):Int))) kj (congrArg (Value.int .u8) (Qp2 _))) <| sg 1 kj <| sgN hK14 ?_
  refine sgC fun K15 hK15=>sg 3 kj <| Qag (.int .i64 ((((1+(fillN n))+16)-1:Nat):Int)) 45 rfl kj (Qam (u:=.int .i64 (IntKind.i64.wrap ((((1+(fillN n))+16:Nat):Int)-1))) kj (congrArg (Value.int .i64) (i64n _ _ (by omega) (by omega)))) <| sg 1 kj <| Qag (.int .i64 (((((1+(fillN n))+16)-1)-i:Nat):Int)) 47 rfl kj (Qam (u:=.int .i64 (IntKind.i64.wrap (((((1+(fillN n))+16)-1:Nat):Int)-((i:Nat):Int)))) kj (congrArg (Value.int .i64) (i64n _ _ (by omega) (by omega)))) <| sg 1 kj <| Qag (.pointer (some ⟨g4,((((1+(fillN n))+16)-1)-i),none⟩)) 49 rfl kj (QaT 27 _ _ .i64 ((((1+(fillN n))+16)-1)-i) g4 ((1+(fillN n))+16) ((1+(fillN n))+16) 5 rfl kj kj kj kj (by omega)) <| Qai g4 _ (ints .u8 ((padL n i).set ((((1+(fillN n))+16)-1)-i) (((8*n/256^i%256:Nat):Int)))) 5 q4_1 rfl kj (Qaz 5 _ _ g4 ((((1+(fillN n))+16)-1)-i) 5 _ _ q4_1 rfl kj kj kj (Nat.lt_of_lt_of_eq (by omega) (QmG n (by omega)).symm)) fun W4 p4 r4_4=>sgN hK15 <| sgC fun K16 hK16=>?_
  refine sg 1 kj <| Qag (.int .u64 (((8*n/256^(i+1):Nat):Int))) 51 rfl kj (Qby .shr _ _ _ _ .u64 .u64 _ _ _ rfl kj kj (Qdo _ _ _ _ _ _ (by decide) (Qra n i))) <| sg 1 kj <| Qag (.int .u64 (0)) 53 rfl kj (Qby .shl _ _ _ _ .u64 .u64 _ _ _ rfl kj kj (QlV _ _ _ _ _ _ (by decide) (show IntKind.u64.wrap (0*2^min (56:Int).toNat IntKind.u64.bits)=0 from rfl))) <| Qag (.int .u64 (((8*n/256^(i+1):Nat):Int))) 54 rfl kj (Qam (u:=.int .u64 (bits .or .u64 (((8*n/256^(i+1):Nat):Int)) (0))) kj (congrArg (Value.int .u64) (or0 _ (lowlt n i (by omega))))) <| sg 1 kj <| sgN hK16 <| Qat <| sg 1 kj <| Qag (.int .u64 (0)) 56 rfl kj (Qby .shr _ _ _ _ .u64 .u64 _ _ _ rfl kj kj (Qdo _ _ _ _ _ _ (by decide) (show Int.fdiv 0 (2^min (8:Int).toNat IntKind.u64.bits)=0 from rfl))) ?_
  refine sg 1 kj <| Qa7 <| hK12 _ _ <| Qat <| Qag (.int .i64 ((i+1:Nat):Int)) 57 rfl kj (Qam (u:=.int .i64 (IntKind.i64.wrap (((i:Nat):Int)+1))) kj (congrArg (Value.int .i64) (i64n _ _ (by omega) (by omega)))) <| sg 1 kj <| Qa7 ?_
  repeat (first | with_reducible refine goX1 ?_ | with_reducible refine goX2 ?_ | with_reducible refine goX3 ?_)
  exact QaI (i+1) ⟨kj,kj,kj,kj,kj,trivial⟩ ⟨(by omega),(QaJ r4_4 (QmF n i (by omega) hlt38)),(QaE.puts q3 p4 (.inl (by simp))),(Puts.ext p4 xx1 b4)⟩ (by omega)
 ·skip
  have heq38:i=16:=by have:=of_decide_eq_false c11; omega
  have r4_3_17:V1.heap[g4]? = some (.cells (ints .u8 (tailP n)) 5):=QaJ q4_1 (by rw [heq38]; rfl)
  refine wp_exit <| hK7 _ _ <| sgB kj <| wp_ret ?_
  repeat (first | with_reducible refine goR1 ?_ | with_reducible refine goR2 ?_)
  exact (show bodyPost _ _ _ .ret _ _ from ret1 (.slice (some ⟨g4,0,none⟩) ((1+(fillN n))+16) ((1+(fillN n))+16)) rfl (Qbb kj) ⟨_,rfl,xx1,Qfs (Qe1 n) b4 r4_3_17 (by simp only [maxLen]; omega)⟩)
end Go.Proofs.YtdoadngmgmdlbaaDoor.Sha5
end
section
namespace Go.Proofs.YtdoadngmgmdlbaaDoor.Sha5
open Go Go.RowKit
open Rely Auto Own
theorem newC (tq : TypeId) (w:World) (hq:w.heap[4]? = some (.cells (ints .u64 Qbo) tq)):Calls Tryd.prog 78 #[] w (Qgc w (fun v W=>∃ g,v=.pointer (some ⟨g,0,none⟩)∧w.heap.size≤g∧HasD g [] W)):=by
  refine enter 4 [] Tryd.func78 rfl rfl kj rfl <| sgB kj <| sgC fun K3 hK3=>Qag (.agg (ints .u64 (Qbo))) 1 rfl kj (Qac 85 _ 4 tq _ _ hq rfl kj kj (isz (n:=8) kj ((Qad _ _).trans (show Qbo.length=8 from rfl)))) <| sg 1 kj <| Qah (cat [ints .u64 (Qbo),ints .u8 (List.replicate 128 0),#[.int .i64 0]]) 128 3 rfl kj kj fun g4 W1 l4 e1 r4_1=>sg 1 kj <| sgN hK3 <| wp_ret ?_
  repeat (first | with_reducible refine goR1 ?_ | with_reducible refine goR2 ?_)
  exact (show bodyPost _ _ _ .ret _ _ from ret1 (.pointer (some ⟨g4,0,none⟩)) rfl (Qbb kj) ⟨_,rfl,(Ext.tr (Rely.Ext.refl w) e1),_,rfl,(qT (Rely.Ext.refl w).size l4),List.replicate 128 0,qZ,Qer 128,rfl,Nat.zero_le _,(by have h9:=r4_1; rw [show Qbo=S0.l.map wv by decide +kernel] at h9; exact h9)⟩)
end Go.Proofs.YtdoadngmgmdlbaaDoor.Sha5
end
section
namespace Go.Proofs.YtdoadngmgmdlbaaDoor.Sha5
open Go Go.RowKit
open Rely Auto Own
theorem QpG (x : Int):IntKind.u8.wrap x=x%256:=by
  have:IntKind.u8.wrap x=x%2^8:=rfl
  rw [this]; rfl
theorem QpJ (x : Wd) (n:Nat):IntKind.u8.wrap (wv (x>>>n))=((x.toNat/2^n%256:Nat):Int):=by
  rw [QpG]; unfold wv; rw [BitVec.toNat_ushiftRight,Nat.shiftRight_eq_div_pow]; omega
theorem Qjf (s : S8) {a b:Nat} (ha:a<8) (hb:b<8):IntKind.u8.wrap (wv (wget s.l a>>>(56-8*b)))=nth s.out (8*a+b):=by
  rcases (show b=0∨b=1∨b=2∨b=3∨b=4∨b=5∨b=6∨b=7 by omega) with rfl | rfl | rfl | rfl | rfl | rfl | rfl | rfl <;> rcases (show a=0∨a=1∨a=2∨a=3∨a=4∨a=5∨a=6∨a=7 by omega) with rfl | rfl | rfl | rfl | rfl | rfl | rfl | rfl <;> exact QpJ _ _
theorem Qf2 (n : Nat):Qaj (tailP n):=fun x hx=>by
  unfold tailP at hx
  rcases List.mem_cons.1 hx with h | h
  · omega
  · rcases List.mem_append.1 h with h | h
    · exact Qer _ x h
    · rcases List.mem_append.1 h with h | h
      · exact Qer _ x h
      · simp only [be8,List.mem_cons,List.not_mem_nil,or_false] at h
        rcases h with h | h | h | h | h | h | h | h <;> omega
set_option maxHeartbeats 8000000 in
theorem sumC (g : Nat) (t:List Int) (tc:TypeId) (w:World) (hc:w.heap[5]? = some (.cells (ints .u64 Qc8) tc)) (hcg:5≠g) (hlen:t.length≤900000000) (hd:HasD g t w):Calls Tryd.prog 80 #[.pointer (some ⟨g,0,none⟩)] w (fun e W=>e=.returned (.agg (ints .u8 (dig t)))∧ExtB g w W):=by
 obtain ⟨b,hbl,hbb,hbp,hmany,hrow⟩:=hd
 obtain ⟨s,hs⟩:∃ z,z=absorb S0 t (t.length/128):=⟨_,rfl⟩
 rw [←hs] at hrow
 replace hrow:w.heap[g]? = some (.cells (cat [ints .u64 ([wv s.a,wv s.b,wv s.c,wv s.d,wv s.e,wv s.f,wv s.g,wv s.h]),ints .u8 (b),#[.int .i64 ((t.length:Nat):Int)]]) 128):=hrow
 refine enter 39 [(0,.pointer (some ⟨g,0,none⟩))] Tryd.func80 rfl rfl kj rfl <| sgC fun K3 hK3=>Qah (ints .u8 (List.replicate 64 0)) 30 2 rfl kj kj fun g4 W1 l4 e1 r4_1=>sgN hK3 <| sgC fun K5 hK5=>sg 4 kj ?_
 have r2_1:=(Qaa hrow e1)
 refine Qag (.int .i64 ((t.length:Nat):Int)) 11 rfl kj (Qak 3 _ g 136 128 _ (.int .i64 ((t.length:Nat):Int)) _ r2_1 rfl kj (QaH [ints .u64 ([wv s.a,wv s.b,wv s.c,wv s.d,wv s.e,wv s.f,wv s.g,wv s.h]),ints .u8 (b)] [#[.int .i64 ((t.length:Nat):Int)]] [] 136 (by rw [Qco,Qco]; simp only [qS,cat,((Qad _ _).trans hbl)]; rfl) 0 _ rfl) kj) ?_
 refine QbC (fun v W'=>(OwnN .u8 5 W1.heap.size (tailP t.length)) v W'∧Ext W1 W') 97 #[.int .i64 ((t.length:Nat):Int),.int .i64 128,.int .i64 16] 12 rfl kj kj ((QmC t.length (by omega) _).mono (by rintro e w' ⟨v,rfl,e1,hv⟩; exact ⟨v,rfl,hv,e1⟩)) fun vv6 W2 hh6=>?_
 obtain ⟨hv6,e2⟩:=hh6
 have hd4:HasD g t W2:=⟨b,hbl,hbb,hbp,hmany,by rw [←hs]; exact (Qaa r2_1 e2)⟩
 have hp4:=hv6
 have hfl:fillN t.length<128:=by unfold fillN; omega
 have hpl:t.length+(tailP t.length).length≤1000000000:=by rw [Qe1]; omega
 refine QbC (fun v W'=>v=.tuple #[]∧ExtB g W2 W'∧HasD g (t++tailP t.length) W') 79 #[.pointer (some ⟨g,0,none⟩),vv6] 13 rfl kj kj ((addC g _ t (tailP t.length) _ tc _ (Qaa (Qaa hc e1) e2) hcg (.inr (hp4.nb (QaB r2_1))) (Qf2 _) hpl hd4 (OwnN.rd hp4)).mono fun e w' h=>⟨_,h.1,rfl,h.2⟩) fun v W3 h=>?_
 obtain ⟨rfl,q3,hD5⟩:=h
 have x3:=ExtB.trans (ExtB.ext (ExtB.ext (ExtB.refl g w) e1) e2) q3
 obtain ⟨b5,hbl5,hbb5,-,-,hrow5⟩:=hD5
 obtain ⟨s5,hs5⟩:∃ z,z=absorb S0 (padT t) ((padT t).length/128):=⟨_,rfl⟩
 rw [show t++tailP t.length=padT t from rfl,←hs5] at hrow5
 replace hrow5:W3.heap[g]? = some (.cells (cat [ints .u64 ([wv s5.a,wv s5.b,wv s5.c,wv s5.d,wv s5.e,wv s5.f,wv s5.g,wv s5.h]),ints .u8 (b5),#[.int .i64 (((padT t).length:Nat):Int)]]) 128):=hrow5
 refine sgN hK5 <| sgC fun K7 hK7=>Qah (ints .u8 (List.replicate 64 0)) 30 3 rfl kj kj fun g8 W4 l8 e4 r8_4=>sgN hK7 <| wp_seq_k fun K9 hK9=>sgC fun K10 hK10=>sg 3 kj <| Qag (.agg (ints .u64 ([wv s5.a,wv s5.b,wv s5.c,wv s5.d,wv s5.e,wv s5.f,wv s5.g,wv s5.h]))) 17 rfl kj (Qaw 85 _ g 0 128 _ _ _ (Qaa hrow5 e4) rfl kj (QaH [] [ints .u64 ([wv s5.a,wv s5.b,wv s5.c,wv s5.d,wv s5.e,wv s5.f,wv s5.g,wv s5.h])] [ints .u8 (b5),#[.int .i64 (((padT t).length:Nat):Int)]] 0 kj) kj (isz (n:=8) kj kj)) <| sg 1 kj <| sgN hK10 ?_
 refine wp_block <| QaN (fun (s1:Nat)=>[(2,.pointer (some ⟨g4,0,none⟩)),(3,.pointer (some ⟨g8,0,none⟩)),(17,.agg (ints .u64 ([wv s5.a,wv s5.b,wv s5.c,wv s5.d,wv s5.e,wv s5.f,wv s5.g,wv s5.h]))),(18,.int .i64 ((s1:Nat):Int))]) (fun (s1:Nat) W=>(s1≤8)∧(W.heap[g8]? = some (.cells (ints .u8 (fill s5.out 64 (8*s1))) 30))∧(QaE [g8] W4 W)∧(ExtB g w W)) (fun (s1:Nat)=>8-s1) 0 ⟨kj,kj,kj,kj,trivial⟩ ⟨(Nat.zero_le _),(QaJ r8_4 (fill_zero s5.out 64).symm),(QaE.refl [g8] W4),(ExtB.ext x3 e4)⟩ fun s1 X1 V1 hI1=>?_
 obtain ⟨i,hs1⟩:∃ z,z=s1:=⟨_,rfl⟩
 subst hs1
 obtain ⟨hi,q8_1,kk1,xx1⟩:=hI1
 replace hi:i≤8:=hi
 replace q8_1:V1.heap[g8]? = some (.cells (ints .u8 (fill s5.out 64 (8*i))) 30):=q8_1
 replace kk1:QaE [g8] W4 V1:=kk1
 replace xx1:ExtB g w V1:=xx1
 have q5:=kk1
 refine sgB kj <| wp_seq_k fun K12 hK12=>QaD (t:=decide (((i:Nat):Int)<8)) kj (fun c13=>?_) (fun c13=>?_)
 ·skip
  have hlt19:i<8:=by have:=of_decide_eq_true c13; omega
  refine wp_skip <| hK12 _ _ <| wp_seq_k fun K14 hK14=>wp_block <| sgC fun K15 hK15=>sg 1 kj <| Qag (.int .u64 (wv (wget s5.l i))) 21 rfl kj (run_index_il 85 _ _ .i64 .u64 ([wv s5.a,wv s5.b,wv s5.c,wv s5.d,wv s5.e,wv s5.f,wv s5.g,wv s5.h]) i 8 46 (wv (wget s5.l i)) rfl kj kj kj kj kj rfl (by omega) (show nth (s5.l.map wv) i=_ from nth_map _ _)) <| sg 2 kj <| sgN hK15 <| sgB kj ?_
  refine wp_block <| QaN (fun (s2:Nat)=>[(2,.pointer (some ⟨g4,0,none⟩)),(3,.pointer (some ⟨g8,0,none⟩)),(4,.int .i64 ((i:Nat):Int)),(5,.int .u64 (wv (wget s5.l i))),(17,.agg (ints .u64 ([wv s5.a,wv s5.b,wv s5.c,wv s5.d,wv s5.e,wv s5.f,wv s5.g,wv s5.h]))),(18,.int .i64 ((i:Nat):Int)),(22,.int .i64 ((s2:Nat):Int))]) (fun (s2:Nat) W=>(s2≤8)∧(W.heap[g8]? = some (.cells (ints .u8 (fill s5.out 64 (8*i+s2))) 30))∧(QaE [g8] V1 W)∧(ExtB g w W)) (fun (s2:Nat)=>8-s2) 0 ⟨kj,kj,kj,kj,kj,kj,kj,trivial⟩ ⟨(Nat.zero_le _),(QaJ q8_1 (show _=fill s5.out 64 (8*i+0) from rfl)),(QaE.refl [g8] V1),xx1⟩ fun s2 X2 V2 hI2=>?_
  obtain ⟨j,hs2⟩:∃ z,z=s2:=⟨_,rfl⟩
  subst hs2
  obtain ⟨hj,q8_2,kk2,xx2⟩:=hI2
  replace hj:j≤8:=hj
  replace q8_2:V2.heap[g8]? = some (.cells (ints .u8 (fill s5.out 64 (8*i+j))) 30):=q8_2
  replace kk2:QaE [g8] V1 V2:=kk2
  replace xx2:ExtB g w V2:=xx2
  have q6:=kk2
  refine sgB kj <| wp_seq_k fun K18 hK18=>QaD (t:=decide (((j:Nat):Int)<8)) kj (fun c19=>?_) (fun c19=>?_)
  ·skip
   have hlt23:j<8:=by have:=of_decide_eq_true c19; omega
   refine wp_skip <| hK18 _ _ <| wp_seq_k fun K20 hK20=>wp_block <| sgB kj <| Qat <| sg 1 kj <| Qag (.int .i64 ((8*i:Nat):Int)) 26 rfl kj (Qam (u:=.int .i64 (IntKind.i64.wrap (8*((i:Nat):Int)))) kj (congrArg (Value.int .i64) (i64n _ _ (by omega) (by omega)))) <| sg 1 kj <| Qag (.int .i64 (((8*i)+j:Nat):Int)) 28 rfl kj (Qam (u:=.int .i64 (IntKind.i64.wrap (((8*i:Nat):Int)+((j:Nat):Int)))) kj (congrArg (Value.int .i64) (i64n _ _ (by omega) (by omega)))) ?_
   refine sg 2 kj <| Qag (.int .i64 ((8*j:Nat):Int)) 31 rfl kj (Qam (u:=.int .i64 (IntKind.i64.wrap (8*((j:Nat):Int)))) kj (congrArg (Value.int .i64) (i64n _ _ (by omega) (by omega)))) <| Qag (.int .i64 (((56-8*j:Nat):Int))) 32 rfl kj (Qam (u:=.int .i64 (IntKind.i64.wrap (56-((8*j:Nat):Int)))) kj (congrArg (Value.int .i64) (i64n _ _ (by omega) (by omega)))) <| Qag (.int .u64 (wv (wget s5.l i>>>(56-8*j)))) 33 rfl kj (Qby .shr _ _ _ _ .u64 .i64 _ _ _ rfl kj kj (Qdo _ _ _ _ _ _ (by omega) (w_shr _ _ (56-8*j) rfl (by omega)))) <| Qag (.int .u8 (nth s5.out (8*i+j))) 34 rfl kj (Qam (u:=.int .u8 (IntKind.u8.wrap (wv (wget s5.l i>>>(56-8*j))))) kj (congrArg (Value.int .u8) (Qjf s5 hlt19 hlt23))) <| Qag (.pointer (some ⟨g8,(8*i)+j,none⟩)) 35 rfl kj (QaR _ _ _ .i64 ((8*i)+j) _ 64 5 rfl kj kj kj kj (by omega)) <| Qai g8 _ (ints .u8 ((fill s5.out 64 (8*i+j)).set ((8*i)+j) (nth s5.out (8*i+j)))) 30 q8_2 rfl kj (Qaz 5 _ _ g8 ((8*i)+j) 30 _ _ q8_2 rfl kj kj kj (Nat.lt_of_lt_of_eq (by omega) (fill_len (show s5.out.length=64 from rfl) (by omega)).symm)) fun W7 p7 r8_7=>Qa7 <| hK20 _ _ <| Qat ?_
   refine Qag (.int .i64 ((j+1:Nat):Int)) 36 rfl kj (Qam (u:=.int .i64 (IntKind.i64.wrap (((j:Nat):Int)+1))) kj (congrArg (Value.int .i64) (i64n _ _ (by omega) (by omega)))) <| sg 1 kj <| Qa7 ?_
   repeat (first | with_reducible refine goX1 ?_ | with_reducible refine goX2 ?_ | with_reducible refine goX3 ?_)
   exact QaI (j+1) ⟨kj,kj,kj,kj,kj,kj,kj,trivial⟩ ⟨(by omega),(QaJ r8_7 (fill_set (show s5.out.length=64 from rfl) (by omega))),(QaE.puts q6 p7 (.inl (by simp))),(ExtB.putsN xx2 p7 (qT x3.size l8))⟩ (by show 8-(j+1)<8-j; omega)
  ·skip
   have heq23:j=8:=by have:=of_decide_eq_false c19; omega
   have r8_6_22:V2.heap[g8]? = some (.cells (ints .u8 (fill s5.out 64 (8*(i+1)))) 30):=QaJ q8_2 (by rw [heq23]; rfl)
   refine wp_exit <| hK14 _ _ <| Qat <| Qag (.int .i64 ((i+1:Nat):Int)) 37 rfl kj (Qam (u:=.int .i64 (IntKind.i64.wrap (((i:Nat):Int)+1))) kj (congrArg (Value.int .i64) (i64n _ _ (by omega) (by omega)))) <| sg 1 kj <| Qa7 ?_
   repeat (first | with_reducible refine goX1 ?_ | with_reducible refine goX2 ?_ | with_reducible refine goX3 ?_)
   exact QaI (i+1) ⟨kj,kj,kj,kj,trivial⟩ ⟨(by omega),r8_6_22,(QaE.keeps q5 q6 (QfD (.inl (by simp)) QhD)),xx2⟩ (by show 8-(i+1)<8-i; omega)
 ·skip
  have heq19:i=8:=by have:=of_decide_eq_false c13; omega
  have r8_5_23:V1.heap[g8]? = some (.cells (ints .u8 (s5.out)) 30):=QaJ q8_1 (by rw [heq19]; exact fill_full (show s5.out.length=64 from rfl))
  refine wp_exit <| hK9 _ _ <| sgC fun K24 hK24=>Qag (.agg (ints .u8 (s5.out))) 38 rfl kj (Qac 30 _ g8 30 _ _ r8_5_23 rfl kj kj (isz (n:=64) kj ((Qad _ _).trans (show s5.out.length=64 from rfl)))) ?_
  have r4_3:=(ExtB.row q3 (Qaa r4_1 e2) (Qas hrow l4))
  have r4_5:=(QaE.row q5 (Qaa r4_3 e4) (Qb4 (Qab r4_3 l8) Qcl))
  refine Qai g4 _ (ints .u8 (s5.out)) 30 r4_5 rfl kj (Qaf 30 _ _ g4 30 _ _ r4_5 rfl kj kj (isz (n:=64) kj ((Qad _ _).trans (show s5.out.length=64 from rfl))) (eqsz (n:=64) ((Qad _ _).trans (qZ (n:=64))) ((Qad _ _).trans (show s5.out.length=64 from rfl))) (ints_one _ _)) fun W6 p6 r4_6=>sgN hK24 <| wp_ret ?_
  repeat (first | with_reducible refine goR1 ?_ | with_reducible refine goR2 ?_)
  exact (show bodyPost _ _ _ .ret _ _ from ret1 (.agg (ints .u8 (s5.out))) rfl (Qa8 g4 30 _ r4_6 kj kj (isz (n:=64) kj ((Qad _ _).trans (show s5.out.length=64 from rfl)))) ⟨by rw [show dig t=s5.out by rw [hs5]; rfl],(ExtB.putsN xx1 p6 (qT (ExtB.refl g w).size l4))⟩)
end Go.Proofs.YtdoadngmgmdlbaaDoor.Sha5
end
section
namespace Go.Proofs.YtdoadngmgmdlbaaDoor.Sha5
open Go Go.RowKit
open Rely Auto Own
def pat (ps : List (Value×List Int)) (i:Nat):Value×List Int:=ps.getD i (undef,[])
def flat (ps : List (Value×List Int)) (i:Nat):List Int:=((ps.take i).map Prod.snd).flatten
theorem Qh6 {ps : List (Value×List Int)} {i:Nat} (h:i<ps.length):pat ps i=ps[i]:=by simp [pat,h]
theorem QkU {ps : List (Value×List Int)} {i:Nat} (h:i<ps.length):pat ps i∈ps:=by rw [Qh6 h]; exact List.getElem_mem h
theorem Qqf {ps : List (Value×List Int)} {i:Nat} (h:i<ps.length):(ps.map Prod.fst).toArray[i]? = some (pat ps i).1:=by
  rw [Qh6 h]; simp [h]
theorem QhT {ps : List (Value×List Int)} {i:Nat} (h:i<ps.length):flat ps (i+1)=flat ps i++(pat ps i).2:=by
  unfold flat
  rw [List.take_add_one,List.getElem?_eq_getElem h,Qh6 h,List.map_append,List.flatten_append]
  show _++[ps[i].2].flatten=_
  rw [List.flatten_singleton]
theorem QhU {ps : List (Value×List Int)} {n:Nat} (h:ps.length=n):flat ps n=(ps.map Prod.snd).flatten:=by
  subst h; simp [flat]
theorem Qpr {ps : List (Value×List Int)} {i:Nat} (h:i<ps.length):(flat ps i).length+(pat ps i).2.length≤((ps.map Prod.snd).flatten).length:=by
  have e:(flat ps (i+1)).length=(flat ps i).length+(pat ps i).2.length:=by rw [QhT h,List.length_append]
  rw [←e]
  have:(ps.map Prod.snd).flatten=flat ps (i+1)++((ps.drop (i+1)).map Prod.snd).flatten:=by
    unfold flat
    rw [←List.flatten_append,←List.map_append,List.take_append_drop]
  rw [this,List.length_append]; omega
theorem QoN (s : S8):s.out.length=64:=rfl
theorem dig_len (t : List Int):(dig t).length=64:=QoN _
theorem Qpb (gp n c:Nat) (cs:Array Value) (Tp:TypeId) (ps:List (Value×List Int)) (hn:ps.length=n) (hn9:n≤1000000) (tc tq:TypeId) (w:World) (hc:w.heap[5]? = some (.cells (ints .u64 Qc8) tc)) (hq:w.heap[4]? = some (.cells (ints .u64 Qbo) tq)) (hrow:w.heap[gp]? = some (.cells cs Tp)) (hcs:∀ i,i<ps.length→cs[i]? = some (pat ps i).1) (hps:∀ p∈ps,RdK .u8 w.heap.size p.2 p.1 w∧Qaj p.2) (hlen:((ps.map Prod.snd).flatten).length≤900000000):Calls Tryd.prog 41 #[.slice (some ⟨gp,0,none⟩) n c] w (Ret w (.agg (ints .u8 (dig ((ps.map Prod.snd).flatten))))):=by
 refine enter 19 [(0,.slice (some ⟨gp,0,none⟩) n c)] Tryd.func41 rfl rfl kj rfl <| sgC fun K4 hK4=>Qah (ints .u8 (List.replicate 64 0)) 30 2 rfl kj kj fun g5 W1 l5 e1 r5_1=>?_
 have x1:=Ext.tr (Rely.Ext.refl w) e1
 refine sgN hK4 <| sgC fun K6 hK6=>QbC (fun v W'=>(fun v W=>∃ g,v=.pointer (some ⟨g,0,none⟩)∧W1.heap.size≤g∧HasD g [] W) v W'∧Ext W1 W') 78 #[] 6 rfl kj kj ((newC tq _ (Qaa hq e1)).mono (by rintro e w' ⟨v,rfl,e1,hv⟩; exact ⟨v,rfl,hv,e1⟩)) fun vv7 W2 hh7=>?_
 obtain ⟨hv7,e2⟩:=hh7
 obtain ⟨gd8,rfl,ld8,hD8⟩:=hv7
 have b8:=qT x1.size ld8
 refine sg 1 kj <| sgN hK6 <| wp_seq_k fun K9 hK9=>sgB kj <| wp_block <| QaN (fun (s1:Nat)=>[(7,.slice (some ⟨gp,0,none⟩) n c),(8,.int .i64 ((n:Nat):Int)),(9,.int .i64 ((s1:Nat):Int)),(3,.pointer (some ⟨gd8,0,none⟩)),(2,.pointer (some ⟨g5,0,none⟩))]) (fun (s1:Nat) W=>(s1≤n)∧(HasD gd8 (flat ps s1) W)∧(QaE [gd8] W2 W)∧(Ext w W)) (fun (s1:Nat)=>n-s1) 0 ⟨kj,kj,kj,kj,kj,trivial⟩ ⟨(Nat.zero_le _),(show HasD _ (flat ps 0) _ from hD8),(QaE.refl [gd8] W2),(Ext.tr x1 e2)⟩ fun s1 X1 V1 hI1=>?_
 obtain ⟨i,hs1⟩:∃ z,z=s1:=⟨_,rfl⟩
 subst hs1
 obtain ⟨hi,hDi,kk1,xx1⟩:=hI1
 replace hi:i≤n:=hi
 replace hDi:HasD gd8 (flat ps i) V1:=hDi
 replace kk1:QaE [gd8] W2 V1:=kk1
 replace xx1:Ext w V1:=xx1
 have q3:=kk1
 refine sgB kj <| wp_seq_k fun K12 hK12=>QaD (t:=decide (((i:Nat):Int)<((n:Nat):Int))) kj (fun c13=>?_) (fun c13=>?_)
 ·skip
  have hlt10:i<n:=by have:=of_decide_eq_true c13; omega
  refine wp_skip <| hK12 _ _ <| wp_seq_k fun K14 hK14=>wp_block <| sgC fun K15 hK15=>?_
  have hi2:i<ps.length:=by omega
  refine Qag (.pointer (some ⟨gp,i,none⟩)) 11 rfl kj (QaT 63 _ _ .i64 i gp n c 27 rfl kj kj kj kj hlt10) ?_
  have r3_1:=(Qaa hrow e1)
  refine Qag ((pat ps i).1) 12 rfl kj (QbD 27 _ _ ((pat ps i).1) (Qa9 (QaE.row q3 (Qaa r3_1 e2) (Qb4 (Qab r3_1 ld8) Qcl)) (hcs i hi2)) rfl kj kj) <| sg 1 kj <| sgN hK15 <| Qat <| sg 2 kj ?_
  have r1_1:=(Qaa hc e1)
  have r1_2:=(Qaa r1_1 e2)
  have r1_3:=(QaE.row q3 r1_2 (Qb4 (Qab r1_1 ld8) Qcl))
  have hp6:=(hps _ (QkU hi2)).1.ext xx1
  have hl6:=Qpr hi2
  refine QbC (fun v W'=>v=.tuple #[]∧ExtB gd8 V1 W'∧HasD gd8 ((flat ps i)++(pat ps i).2) W') 79 #[.pointer (some ⟨gd8,0,none⟩),(pat ps i).1] 15 rfl kj kj ((addC gd8 _ _ _ _ tc _ r1_3 (Nat.ne_of_lt (qL (QaB hc) b8)) (hp6.nb b8) (hps _ (QkU hi2)).2 (by omega) hDi hp6).mono fun e w' h=>⟨_,h.1,rfl,h.2⟩) fun v W4 h=>?_
  obtain ⟨rfl,q4,hDn⟩:=h
  have x4:=ExtB.up xx1 q4 b8
  refine Qa7 <| hK14 _ _ <| Qat <| Qag (.int .i64 ((i+1:Nat):Int)) 16 rfl kj (Qam (u:=.int .i64 (IntKind.i64.wrap (((i:Nat):Int)+1))) kj (congrArg (Value.int .i64) (i64n _ _ (by omega) (by omega)))) <| sg 1 kj <| Qa7 ?_
  repeat (first | with_reducible refine goX1 ?_ | with_reducible refine goX2 ?_ | with_reducible refine goX3 ?_)
  exact QaI (i+1) ⟨kj,kj,kj,kj,kj,trivial⟩ ⟨(by omega),(by rw [QhT hi2]; exact hDn),(QaE.but q3 q4 (.inl (by simp))),x4⟩ (by omega)
 ·skip
  have heq10:i=n:=by have:=of_decide_eq_false c13; omega
  refine wp_exit <| hK9 _ _ <| sgC fun K16 hK16=>sg 1 kj ?_
  have r1_1:=(Qaa hc e1)
  have r1_2:=(Qaa r1_1 e2)
  have r1_3:=(QaE.row q3 r1_2 (Qb4 (Qab r1_1 ld8) Qcl))
  refine QbC (fun v W'=>v=(.agg (ints .u8 (dig (flat ps i))))∧ExtB gd8 V1 W') 80 #[.pointer (some ⟨gd8,0,none⟩)] 18 rfl kj kj ((sumC gd8 _ tc _ r1_3 (Nat.ne_of_lt (qL (QaB hc) b8)) (by rw [heq10,QhU hn]; exact hlen) hDi).mono fun e w' h=>⟨_,h.1,rfl,h.2⟩) fun v W4 h=>?_
  obtain ⟨rfl,q4⟩:=h
  have x4:=ExtB.up xx1 q4 b8
  have r5_4:=(ExtB.row q4 (QaE.row q3 (Qaa r5_1 e2) (Qb4 (Qab r5_1 ld8) Qcl)) (Qab r5_1 ld8))
  refine Qai g5 _ (ints .u8 (dig (flat ps i))) 30 r5_4 rfl kj (Qaf 30 _ _ g5 30 _ _ r5_4 rfl kj kj (isz (n:=64) kj ((Qad _ _).trans (dig_len _))) (eqsz (n:=64) ((Qad _ _).trans (qZ (n:=64))) ((Qad _ _).trans (dig_len _))) (ints_one _ _)) fun W5 p5 r5_5=>sgN hK16 <| wp_ret ?_
  repeat (first | with_reducible refine goR1 ?_ | with_reducible refine goR2 ?_)
  exact (show bodyPost _ _ _ .ret _ _ from ret1 (.agg (ints .u8 (dig (flat ps i)))) rfl (Qa8 g5 30 _ r5_5 kj kj (isz (n:=64) kj ((Qad _ _).trans (dig_len _)))) ⟨by rw [heq10,QhU hn],(Puts.ext p5 x4 (qT (Rely.Ext.refl w).size l5))⟩)
theorem Qrn (gp n:Nat) (Tp:TypeId) (ps:List (Value×List Int)) (hn:ps.length=n) (hn9:n≤1000000) (tc tq:TypeId) (w:World) (hc:w.heap[5]? = some (.cells (ints .u64 Qc8) tc)) (hq:w.heap[4]? = some (.cells (ints .u64 Qbo) tq)) (hrow:w.heap[gp]? = some (.cells (ps.map Prod.fst).toArray Tp)) (hps:∀ p∈ps,RdK .u8 w.heap.size p.2 p.1 w∧Qaj p.2) (hlen:((ps.map Prod.snd).flatten).length≤900000000):Calls Tryd.prog 41 #[.slice (some ⟨gp,0,none⟩) n n] w (Ret w (.agg (ints .u8 (dig ((ps.map Prod.snd).flatten))))) :=
  Qpb gp n n _ Tp ps hn hn9 tc tq w hc hq hrow (fun i h=>Qqf h) hps hlen
end Go.Proofs.YtdoadngmgmdlbaaDoor.Sha5
end
section
namespace Go.Proofs.YtdoadngmgmdlbaaDoor.Sha5
open Go Go.RowKit
open Rely Auto Own
theorem Qe6 {k : IntKind} {B:Nat} {ys:List Int} {a:Option Addr} {n c:Nat} {W:World} (h:RdK k B ys (.slice a n c) W) (h0:0<ys.length):∃ g o,a=some ⟨g,o,none⟩∧g<B∧∀ i,i<ys.length→W.cell? ⟨g,o+i,none⟩=some (.int k (nth ys i)):=by
  obtain ⟨a',cap',e,h2,h3,h4,h5⟩:=h
  simp only [Value.slice.injEq] at e
  obtain ⟨rfl,-,-⟩:=e
  rcases h5 with h5 | ⟨g,o,q1,q2,q3,q4⟩
  · rw [h5] at h0; simp at h0
  · exact ⟨g,o,q1,q2,q4⟩
theorem QqL (w : World):Calls Tryd.prog 52 #[] w (Qgc w (fun v W=>∃ g,v=.slice (some ⟨g,0,none⟩) 8 8∧w.heap.size≤g∧W.heap[g]? = some (.cells (ints .u64 Qbo) 46))):=by
  refine enter 2 [] Tryd.func52 rfl rfl kj rfl <| sgB kj <| sgC fun K2 hK2=>QaW (ints .u64 Qbo) 46 8 1 rfl kj kj fun g3 W1 l3 e1 r3_1=>sg 1 kj <| sgN hK2 <| wp_ret ?_
  repeat (first | with_reducible refine goR1 ?_ | with_reducible refine goR2 ?_)
  exact (show bodyPost _ _ _ .ret _ _ from ret1 (.slice (some ⟨g3,0,none⟩) 8 8) rfl (Qbb kj) ⟨_,rfl,(Ext.tr (Rely.Ext.refl w) e1),_,rfl,(qT (Rely.Ext.refl w).size l3),r3_1⟩)
theorem Qq5 (w : World):Calls Tryd.prog 53 #[] w (Qgc w (fun v W=>∃ g,v=.slice (some ⟨g,0,none⟩) 80 80∧w.heap.size≤g∧W.heap[g]? = some (.cells (ints .u64 Qc8) 46))):=by
  refine enter 2 [] Tryd.func53 rfl rfl kj rfl <| sgB kj <| sgC fun K2 hK2=>QaW (ints .u64 Qc8) 46 80 1 rfl kj kj fun g3 W1 l3 e1 r3_1=>sg 1 kj <| sgN hK2 <| wp_ret ?_
  repeat (first | with_reducible refine goR1 ?_ | with_reducible refine goR2 ?_)
  exact (show bodyPost _ _ _ .ret _ _ from ret1 (.slice (some ⟨g3,0,none⟩) 80 80) rfl (Qbb kj) ⟨_,rfl,(Ext.tr (Rely.Ext.refl w) e1),_,rfl,(qT (Rely.Ext.refl w).size l3),r3_1⟩)
section
variable {P : Program} {ρ : Operand → Value} {o : Oper} {w : World}
theorem QcE (t : TypeId) (x y:Operand) (k:IntKind) (n g off len cap:Nat) (e:TypeId) (a:Option Addr) (z:Int) (ha:a=some ⟨g,off,none⟩) (hz:z=(n:Int)) (ho:o.op=.indexAddr t x y) (hx:ρ x=.slice a len cap) (hy:ρ y=.int k z)
    (hu:P.underlying t=some (.slice e)) (hs:(P.info? e).map (·.size)=some 1) (hn:n<len):(execOp ρ o).run P w=.ok (.value (.pointer (some ⟨g,off+n,none⟩))) w:=by
  subst ha; subst hz
  exact QdS t x y k n g off len cap e ho hx hy hu hs hn
end
section
variable {ds : List Deferred} {P : Program} {ops : Array Oper} {Q : Exit → Act → World → Prop} {rest : List Oper} {o : Oper} {N : Nat} {L : Env} {W : World}
theorem Qir {k : IntKind} {T:TypeId} (b:Nat) (s x:Operand) (t:TypeId) (ho:o.op=.call { callee:=.builtin .append,args:=#[s,x],argTypes:=#[t,t] })
    (ht:P.underlying t=some (.slice T)) (hi:(P.info? T).map (fun i=>(i.zero,i.size,i.bytes))=some (some (.int k 0),1,b)) (hb8:b≤8) (d:Nat) (hd:o.dst=some d) (hg:QcJ ops o N L=some true) {B:Nat} {v y:Value} {xs ys:List Int} {V:World}
    (hs:Rely.look (envN N L) s=v) (hx:Rely.look (envN N L) x=y)
    (h:OwnN k T V.heap.size xs v W) (hy:RdK k B ys y W) {g9:Nat} (hl:g9<W.heap.size) (hne:v.ownBlock≠some g9) (hn:xs.length+ys.length≤1000000000) (hV:Ext V W)
    (kk:∀ (u:Value) (W':World),OwnN k T V.heap.size (xs++ys) u W'→Ext V W'→Below V.heap.size W W'→(u.ownBlock≠some g9∧g9<W'.heap.size∧W'.heap[g9]? = W.heap[g9]?)→WL P ops Q rest (Qa5 ds N ((d,u)::L)) W'):WL P ops Q (o::rest) (Qa5 ds N L) W:=by
  obtain ⟨v',W',h1,h2,h3,h4⟩:=Qhh (ρ:=Rely.look (envN N L)) (o:=o) (W:=W) s x t ho ht hi hb8 hs hx h hy hn hV.size
  refine Qcx _ _ d hd hg h1 (kk v' W' h2 (QlE hV h h3) ⟨h3.os,h3.tape,h3.output,h3.size,fun i hi=>h3.block i (qL hi hV.size) (fun q=>by have:=h.ge q.symm; omega)⟩ ⟨?_,qL hl h3.size,h3.block g9 hl (fun q=>hne q.symm)⟩)
  rcases h4 with h4 | h4
  · rw [h4]; exact hne
  · rw [h4]; intro e; have:=Option.some.inj e; omega
end
def leP (n j:Nat):List Int:=(List.range j).map fun i=>((8*n/256^i%256:Nat):Int)
theorem QfK (n j:Nat):(leP n j).length=j:=by simp [leP]
theorem Qnf (n j:Nat):leP n (j+1)=leP n j++[((8*n/256^j%256:Nat):Int)]:=by simp [leP,List.range_succ]
theorem Qph (n j k:Nat) (h:k<j):nth (leP n j) k=((8*n/256^k%256:Nat):Int):=by simp [leP,nth,h]
theorem Qrp (n j:Nat) (hn:n≤1000000000) (h:j<16):nth (leP n 16) (15-j)=nth (be16 (8*n)) j:=by
  rw [Qph n 16 (15-j) (by omega)]
  rcases Nat.lt_or_ge j 8 with q | q
  · rw [QqC n (15-j) hn (by omega)]
    rcases (show j=0∨j=1∨j=2∨j=3∨j=4∨j=5∨j=6∨j=7 by omega) with rfl | rfl | rfl | rfl | rfl | rfl | rfl | rfl <;> rfl
  · rcases (show j=8∨j=9∨j=10∨j=11∨j=12∨j=13∨j=14∨j=15 by omega) with rfl | rfl | rfl | rfl | rfl | rfl | rfl | rfl <;> rfl
theorem Qp5 (m j:Nat) (h:j<16):(be16 m).take (j+1)=(be16 m).take j++[nth (be16 m) j]:=by
  rcases (show j=0∨j=1∨j=2∨j=3∨j=4∨j=5∨j=6∨j=7∨j=8∨j=9∨j=10∨j=11∨j=12∨j=13∨j=14∨j=15 by omega) with rfl | rfl | rfl | rfl | rfl | rfl | rfl | rfl | rfl | rfl | rfl | rfl | rfl | rfl | rfl | rfl <;> rfl
theorem Qm1 (t : List Int) (i:Nat):t++128::List.replicate (i+1) (0:Int)=(t++128::List.replicate i 0)++[0]:=by
  rw [List.append_assoc,List.cons_append,List.replicate_succ']
theorem QmD (t : List Int) (i:Nat) (h:i≤fillN t.length):((((t++128::List.replicate i (0:Int)).length%128:Nat):Int) != 112)=decide (i<fillN t.length):=by
  have hl:(t++128::List.replicate i (0:Int)).length=t.length+(i+1):=by simp
  rw [hl]
  unfold fillN at *
  by_cases h2:i<(128-(t.length+17)%128)%128
  · rw [decide_eq_true h2,bne_iff_ne]; omega
  · rw [decide_eq_false h2,bne_eq_false_iff_eq]; omega
theorem Qpg (n j:Nat):decide ((((leP n j).length:Nat):Int)<16)=decide (j<16):=by
  rw [QfK]
  exact decide_eq_decide.2 (by omega)
theorem Qpq (j : Nat) (h:j≤16):decide ((15:Int)-((j:Nat):Int)≥0)=decide (j<16):=decide_eq_decide.2 (by omega)
theorem Qrr (j : Nat) (h:j≤16):IntKind.i64.wrap ((15:Int)-((j:Nat):Int)-1)=(15:Int)-((j+1:Nat):Int):=by
  rw [show (15:Int)-((j:Nat):Int)-1=(15:Int)-((j+1:Nat):Int) by omega]
  exact IntWalk.i64_in _ (by omega)
theorem le_0 (n : Nat):IntKind.u8.wrap ((n%32*8:Nat):Int)=((8*n/256^0%256:Nat):Int):=by
  rw [Qp2,Nat.pow_zero,Nat.div_one]; omega
theorem le_j (m : Nat):IntKind.u8.wrap ((m%256:Nat):Int)=((m%256:Nat):Int):=by rw [Qp2]; omega
theorem q_1 (n : Nat):8*n/256^1=n/32:=by rw [Nat.pow_one]; omega
theorem q_j (m j:Nat):m/256^j/256=m/256^(j+1):=by rw [Nat.div_div_eq_div_mul,Nat.pow_succ]
theorem QoI (t : List Int):(t++128::List.replicate (fillN t.length) (0:Int))++(be16 (8*t.length)).take 16=padT t:=by
  rw [List.append_assoc,List.cons_append]
  rfl
theorem padC (t : List Int) (v:Value) (B:Nat) (w:World) (hlen:t.length≤900000000) (hr:RdK .u8 B t v w):Calls Tryd.prog 54 #[v,.int .i64 128,.int .i64 16] w (Qgc w (OwnN .u8 5 w.heap.size (padT t))):=by
 obtain ⟨a_t,c_t,rfl,-⟩:=id hr
 have hF:fillN t.length<128:=by unfold fillN; omega
 refine enter 62 [(0,.slice a_t t.length c_t),(1,.int .i64 128),(2,.int .i64 16)] Tryd.func54 rfl rfl kj rfl <| sgB kj <| sgC fun K2 hK2=>QaW (ints .u8 ([])) 5 0 11 rfl kj kj fun g3 W1 l3 e1 r3_1=>?_
 have x1:=Ext.tr (Rely.Ext.refl w) e1
 have b3:=qT (Rely.Ext.refl w).size l3
 refine sg 1 kj <| QcD (k:=.u8) (T:=5) (xs:=[]) (ys:=t) (V:=w) 1 (.tmp 11) (.tmp 12) 27 rfl kj kj (by decide) 13 rfl kj kj kj (Qfs (xs:=[]) rfl l3 r3_1 (by decide)) (RdK.ext hr x1) (by simp; omega) (Rely.Ext.trans (Rely.Ext.refl w) e1) fun z1 W2 f4 y2 l2=>?_
 have x2:=Ext.low x1 l2 (Rely.Ext.refl w).size
 refine QaW (ints .u8 ([128])) 5 1 14 rfl kj kj fun g6 W3 l6 e3 r6_3=>?_
 have b6:=qT x2.size l6
 refine QcD (k:=.u8) (T:=5) (xs:=[]++t) (ys:=[128]) (V:=w) 1 (.tmp 13) (.tmp 14) 27 rfl kj kj (by decide) 15 rfl kj kj kj (f4.ext e3) (Qcc (xs:=[128]) (n:=1) rfl r6_3 (QaB r6_3) (show 1≤maxLen from by decide)) (by simp; omega) (Rely.Ext.trans y2 e3) fun z2 W4 f8 y4 l4=>?_
 refine sg 1 kj <| sgN hK2 <| wp_seq_k fun K10 hK10=>wp_block <| QaN (fun (s1:Nat×Value)=>[(0,.slice a_t t.length c_t),(1,.int .i64 128),(2,.int .i64 16),(7,s1.2)]) (fun (s1:Nat×Value) W=>(s1.1≤fillN t.length)∧(OwnN .u8 5 w.heap.size (t++128::List.replicate s1.1 0) s1.2 W)∧(Ext w W)) (fun (s1:Nat×Value)=>fillN t.length-s1.1) (0,z2) ⟨kj,kj,kj,kj,trivial⟩ ⟨(Nat.zero_le _),(by have h:=f8; simpa using h),(Ext.low (Ext.tr x2 e3) l4 (Rely.Ext.refl w).size)⟩ fun s1 X1 V1 hI1=>?_
 obtain ⟨i,u⟩:=s1
 obtain ⟨hi,hu,xx1⟩:=hI1
 replace hi:i≤fillN t.length:=hi
 replace hu:OwnN .u8 5 w.heap.size (t++128::List.replicate i 0) u V1:=hu
 replace xx1:Ext w V1:=xx1
 obtain ⟨a7,c7,rfl,-⟩:=id (OwnN.rd hu)
 refine wp_seq_k fun K11 hK11=>sgC fun K12 hK12=>sg 3 kj <| Qag (.int .i64 ((((t++128::List.replicate i 0).length)%128:Nat):Int)) 19 rfl kj (Qam (u:=.int .i64 (Int.tmod ((((t++128::List.replicate i 0).length:Nat):Int)) (128))) kj (congrArg (Value.int .i64) (Qdc _ 128))) <| sg 3 kj <| Qag (.bool (decide (i<fillN t.length))) 23 rfl kj (Qam (u:=.bool ((((((t++128::List.replicate i 0).length)%128:Nat):Int) != 112))) kj (congrArg Value.bool (QmD t i hi))) <| sgN hK12 <| QaD (t:=decide (i<fillN t.length)) kj (fun c13=>?_) (fun c13=>?_)
 ·skip
  have hlt23:i<fillN t.length:=by have:=of_decide_eq_true c13; omega
  refine wp_skip <| hK11 _ _ <| wp_block <| Qat <| sg 1 kj <| QaW (ints .u8 ([0])) 5 1 25 rfl kj kj fun g14 W6 l14 e6 r14_6=>?_
  have x6:=Ext.tr xx1 e6
  have b14:=qT xx1.size l14
  refine QcD (k:=.u8) (T:=5) (xs:=t++128::List.replicate i 0) (ys:=[0]) (V:=w) 1 (.tmp 24) (.tmp 25) 27 rfl kj kj (by decide) 26 rfl kj kj kj (hu.ext e6) (Qcc (xs:=[0]) (n:=1) rfl r14_6 (QaB r14_6) (show 1≤maxLen from by decide)) (by simp; omega) (Rely.Ext.trans xx1 e6) fun z3 W7 f16 y7 l7=>?_
  refine sg 1 kj <| Qa7 ?_
  repeat (first | with_reducible refine goX1 ?_ | with_reducible refine goX2 ?_ | with_reducible refine goX3 ?_)
  exact QaI ((i+1),z3) ⟨kj,kj,kj,kj,trivial⟩ ⟨(by omega),(by rw [Qm1]; exact f16),(Ext.low x6 l7 (Rely.Ext.refl w).size)⟩ (by show fillN t.length-(i+1)<fillN t.length-i; omega)
 ·skip
  have heq23:i=fillN t.length:=by have:=of_decide_eq_false c13; omega
  subst heq23
  refine wp_exit <| hK10 _ _ <| sgB kj <| sgC fun K19 hK19=>sg 1 kj <| Qag (.int .i64 ((t.length%32:Nat):Int)) 30 rfl kj (Qam (u:=.int .i64 (Int.tmod (((t.length:Nat):Int)) (32))) kj (congrArg (Value.int .i64) (Qdc _ 32))) <| Qag (.int .i64 (((t.length%32)*8:Nat):Int)) 31 rfl kj (Qam (u:=.int .i64 (IntKind.i64.wrap (((t.length%32:Nat):Int)*8))) kj (congrArg (Value.int .i64) (i64n _ _ (by omega) (by omega)))) <| Qag (.int .u8 (((8*t.length/256^0%256:Nat):Int))) 32 rfl kj (Qam (u:=.int .u8 (IntKind.u8.wrap (((t.length%32)*8:Nat):Int))) kj (congrArg (Value.int .u8) (le_0 _))) <| QaW (ints .u8 ([(((8*t.length/256^0%256:Nat):Int))])) 5 1 33 rfl kj kj fun g20 W6 l20 e6 r20_6=>?_
  have x6:=Ext.tr xx1 e6
  have b20:=qT xx1.size l20
  refine sg 1 kj <| sgN hK19 <| sgC fun K21 hK21=>sg 1 kj <| Qag (.int .i64 ((t.length/32:Nat):Int)) 35 rfl kj (Qam (u:=.int .i64 (IntKind.i64.wrap (Int.tdiv (((t.length:Nat):Int)) (32)))) kj (congrArg (Value.int .i64) (QeU _ 32 (by omega)))) <| sg 1 kj <| sgN hK21 <| wp_seq_k fun K22 hK22=>wp_block <| QaN (fun (s2:Nat×Value)=>[(0,.slice a_t t.length c_t),(1,.int .i64 128),(2,.int .i64 16),(7,.slice a7 ((t++128::List.replicate (fillN t.length) 0).length) c7),(8,.int .i64 ((8*t.length/256^s2.1:Nat):Int)),(9,s2.2)]) (fun (s2:Nat×Value) W=>(1≤s2.1)∧(s2.1≤16)∧(OwnN .u8 5 w.heap.size (t++128::List.replicate (fillN t.length) 0) (.slice a7 ((t++128::List.replicate (fillN t.length) 0).length) c7) W)∧(OwnN .u8 5 V1.heap.size (leP t.length s2.1) s2.2 W)∧(Ext V1 W)∧(Ext w W)) (fun (s2:Nat×Value)=>16-s2.1) (1,.slice (some ⟨g20,0,none⟩) 1 1) ⟨kj,kj,kj,kj,(congrArg (fun z:Nat=>Value.int .i64 (z:Int)) (q_1 _).symm),kj,trivial⟩ ⟨(qR _),(show (1:Nat)≤16 by decide),(hu.ext e6),(Qfs (xs:=leP t.length 1) rfl l20 r20_6 (by decide)),(Rely.Ext.trans (Rely.Ext.refl V1) e6),x6⟩ fun s2 X2 V2 hI2=>?_
  obtain ⟨j,u⟩:=s2
  obtain ⟨hj1,hj,h7,hu9,hv9,xx2⟩:=hI2
  replace hj1:1≤j:=hj1
  replace hj:j≤16:=hj
  replace h7:OwnN .u8 5 w.heap.size (t++128::List.replicate (fillN t.length) 0) (.slice a7 ((t++128::List.replicate (fillN t.length) 0).length) c7) V2:=h7
  replace hu9:OwnN .u8 5 V1.heap.size (leP t.length j) u V2:=hu9
  replace hv9:Ext V1 V2:=hv9
  replace xx2:Ext w V2:=xx2
  obtain ⟨a9,c9,rfl,-⟩:=id (OwnN.rd hu9)
  have hq8:8*t.length/256^j≤16000000000:=qT (Nat.div_le_self _ _) (by omega)
  refine wp_seq_k fun K24 hK24=>sgC fun K25 hK25=>sg 3 kj <| Qag (.bool (decide (j<16))) 39 rfl kj (Qam (u:=.bool (decide ((((leP t.length j).length:Nat):Int)<16))) kj (congrArg Value.bool (Qpg _ _))) <| sgN hK25 <| QaD (t:=decide (j<16)) kj (fun c26=>?_) (fun c26=>?_)
  ·skip
   have hlt39:j<16:=by have:=of_decide_eq_true c26; omega
   refine wp_skip <| hK24 _ _ <| wp_block <| sgC fun K27 hK27=>sg 2 kj <| Qag (.int .i64 (((8*t.length/256^j)%256:Nat):Int)) 42 rfl kj (Qam (u:=.int .i64 (Int.tmod (((8*t.length/256^j:Nat):Int)) (256))) kj (congrArg (Value.int .i64) (Qdc _ 256))) <| Qag (.int .u8 (((8*t.length/256^j%256:Nat):Int))) 43 rfl kj (Qam (u:=.int .u8 (IntKind.u8.wrap (((8*t.length/256^j)%256:Nat):Int))) kj (congrArg (Value.int .u8) (le_j _))) <| QaW (ints .u8 ([(((8*t.length/256^j%256:Nat):Int))])) 5 1 44 rfl kj kj fun g28 W8 l28 e8 r28_8=>?_
   have b28:=qT xx2.size l28
   refine QcD (k:=.u8) (T:=5) (xs:=leP t.length j) (ys:=[(((8*t.length/256^j%256:Nat):Int))]) (V:=V1) 1 (.tmp 40) (.tmp 44) 27 rfl kj kj (by decide) 45 rfl kj kj kj (hu9.ext e8) (Qcc (xs:=[(((8*t.length/256^j%256:Nat):Int))]) (n:=1) rfl r28_8 (QaB r28_8) (show 1≤maxLen from by decide)) (by rw [QfK]; show _+1≤_; omega) (Rely.Ext.trans hv9 e8) fun z4 W9 f30 y9 l9=>?_
   have x9:=Ext.low (Ext.tr xx2 e8) l9 xx1.size
   refine sg 1 kj <| sgN hK27 <| Qat <| sg 1 kj <| Qag (.int .i64 (((8*t.length/256^j)/256:Nat):Int)) 47 rfl kj (Qam (u:=.int .i64 (IntKind.i64.wrap (Int.tdiv (((8*t.length/256^j:Nat):Int)) (256)))) kj (congrArg (Value.int .i64) (QeU _ 256 (by omega)))) <| sg 1 kj <| Qa7 ?_
   repeat (first | with_reducible refine goX1 ?_ | with_reducible refine goX2 ?_ | with_reducible refine goX3 ?_)
   exact QaI ((j+1),z4) ⟨kj,kj,kj,kj,(congrArg (fun z:Nat=>Value.int .i64 (z:Int)) (q_j _ _)),kj,trivial⟩ ⟨(by omega),(by omega),(OwnN.low (n:=0) (h7.ext e8) hu l9),(by rw [Qnf]; exact f30),y9,x9⟩ (by show 16-(j+1)<16-j; omega)
  ·skip
   have heq39:j=16:=by have:=of_decide_eq_false c26; omega
   subst heq39
   refine wp_exit <| hK22 _ _ <| wp_seq_k fun K34 hK34=>sgB kj <| wp_block ?_
   obtain ⟨g9,o9,ha9,hl0,hc0⟩:=Qe6 (OwnN.rd hu9) (by rw [QfK]; decide)
   have hne0:(Value.slice a7 (t++128::List.replicate (fillN t.length) 0).length c7).ownBlock≠some g9:=fun e=>by
    have h1:=OwnN.lt hu e
    have h2:=OwnN.ge hu9 (g:=g9) (by rw [ha9]; rfl)
    omega
   refine QaN (fun (s3:Nat×Value)=>[(7,s3.2),(9,.slice a9 ((leP t.length 16).length) c9),(10,.int .i64 ((15:Int)-((s3.1:Nat):Int)))]) (fun (s3:Nat×Value) W=>(s3.1≤16)∧(OwnN .u8 5 w.heap.size (t++128::List.replicate (fillN t.length) 0++(be16 (8*t.length)).take s3.1) s3.2 W)∧(g9<W.heap.size)∧(s3.2.ownBlock≠some g9)∧(∀ i,i<(leP t.length 16).length→W.cell? ⟨g9,o9+i,none⟩=some (.int .u8 (nth (leP t.length 16) i)))∧(Ext w W)) (fun (s3:Nat×Value)=>16-s3.1) (0,.slice a7 ((t++128::List.replicate (fillN t.length) 0).length) c7) ⟨kj,kj,kj,trivial⟩ ⟨(Nat.zero_le _),(by rw [List.take_zero,List.append_nil]; exact h7),hl0,hne0,hc0,xx2⟩ fun s3 X3 V3 hI3=>?_
   obtain ⟨j,u⟩:=s3
   obtain ⟨hj,hu,hl,hne,hcl,xx3⟩:=hI3
   replace hj:j≤16:=hj
   replace hu:OwnN .u8 5 w.heap.size (t++128::List.replicate (fillN t.length) 0++(be16 (8*t.length)).take j) u V3:=hu
   replace hl:g9<V3.heap.size:=hl
   replace hne:u.ownBlock≠some g9:=hne
   replace hcl:∀ i,i<(leP t.length 16).length→V3.cell? ⟨g9,o9+i,none⟩=some (.int .u8 (nth (leP t.length 16) i)):=hcl
   replace xx3:Ext w V3:=xx3
   refine wp_seq_k fun K36 hK36=>sgC fun K37 hK37=>sg 1 kj <| Qag (.bool (decide (j<16))) 51 rfl kj (Qam (u:=.bool (decide (((15:Int)-((j:Nat):Int))≥0))) kj (congrArg Value.bool (Qpq j hj))) <| sgN hK37 <| QaD (t:=decide (j<16)) kj (fun c38=>?_) (fun c38=>?_)
   ·skip
    have hlt51:j<16:=by have:=of_decide_eq_true c38; omega
    refine wp_skip <| hK36 _ _ <| wp_seq_k fun K39 hK39=>wp_block <| Qat <| sg 3 kj <| Qag (.pointer (some ⟨g9,o9+(15-j),none⟩)) 57 rfl kj (QcE 27 _ _ .i64 (15-j) g9 o9 (leP t.length 16).length c9 5 a9 ((15:Int)-((j:Nat):Int)) ha9 (by omega) rfl kj kj kj kj (by rw [QfK]; omega)) ?_
    refine Qag (.int .u8 (nth (be16 (8*t.length)) j)) 58 rfl kj (QbD 5 _ _ (.int .u8 (nth (be16 (8*t.length)) j)) ((hcl (15-j) (by rw [QfK]; omega)).trans (congrArg (fun z=>some (Value.int .u8 z)) (Qrp _ j (by omega) hlt51))) rfl kj kj) ?_
    refine QaW (ints .u8 ([(nth (be16 (8*t.length)) j)])) 5 1 59 rfl kj kj fun g40 W9 l40 e9 r40_9=>?_
    have x9:=Ext.tr xx3 e9
    have b40:=qT xx3.size l40
    have hl4:=qL hl e9.size
    have hb4:=e9.block g9 hl
    refine Qir (k:=.u8) (T:=5) (xs:=t++128::List.replicate (fillN t.length) 0++(be16 (8*t.length)).take j) (ys:=[(nth (be16 (8*t.length)) j)]) (V:=w) 1 (.tmp 54) (.tmp 59) 27 rfl kj kj (by decide) 60 rfl kj kj kj (hu.ext e9) (Qcc (xs:=[(nth (be16 (8*t.length)) j)]) (n:=1) rfl r40_9 (QaB r40_9) (show 1≤maxLen from by decide)) hl4 hne (by simp [be16,be8]; unfold fillN; omega) (Rely.Ext.trans xx3 e9) fun z5 W10 f42 y10 l10 hP=>?_
    refine sg 1 kj <| Qa7 <| hK39 _ _ <| Qat <| sg 1 kj <| Qag (.int .i64 ((15:Int)-((j+1:Nat):Int))) 53 rfl kj (Qam (u:=.int .i64 (IntKind.i64.wrap (((15:Int)-((j:Nat):Int))-1))) kj (congrArg (Value.int .i64) (Qrr j (by omega)))) <| sg 1 kj <| Qa7 ?_
    repeat (first | with_reducible refine goX1 ?_ | with_reducible refine goX2 ?_ | with_reducible refine goX3 ?_)
    exact QaI ((j+1),z5) ⟨kj,kj,kj,trivial⟩ ⟨(by omega),(by rw [Qp5 _ _ hlt51,←List.append_assoc]; exact f42),hP.2.1,hP.1,(fun i hi=>(World.cell?_of_block (hP.2.2.trans hb4)).trans (hcl i hi)),(Ext.low x9 l10 (Rely.Ext.refl w).size)⟩ (by show 16-(j+1)<16-j; omega)
   ·skip
    have heq51:j=16:=by have:=of_decide_eq_false c38; omega
    subst heq51
    refine wp_exit <| hK34 _ _ <| sgB kj <| wp_ret ?_
    repeat (first | with_reducible refine goR1 ?_ | with_reducible refine goR2 ?_)
    exact (show bodyPost _ _ _ .ret _ _ from ret1 (u) rfl (Qbb kj) ⟨_,rfl,xx3,QoI t▸hu⟩)
end Go.Proofs.YtdoadngmgmdlbaaDoor.Sha5
end
section
namespace Go.Proofs.YtdoadngmgmdlbaaDoor.Sha5
open Go Go.RowKit
open Rely Auto Own
theorem QnP {v : Value}:∀ c∈([]:List Nat),v.ownBlock≠some c:=fun _ h=>by simp at h
theorem Qlg {v : Value} {g:Nat} {gs:List Nat} (h:v.ownBlock≠some g) (h2:∀ c∈gs,v.ownBlock≠some c):∀ c∈g::gs,v.ownBlock≠some c:=fun c hc=>by
  rcases List.mem_cons.1 hc with e | e
  · rw [e]; exact h
  · exact h2 c e
theorem OwnN.keepsL {k : IntKind} {T:TypeId} {base:Nat} {gs:List Nat} {xs:List Int} {v:Value} {V W:World} (h:OwnN k T base xs v V) (q:QaE gs V W) (hn:∀ c∈gs,v.ownBlock≠some c):OwnN k T base xs v W :=
  h.keep fun g hg=>q.block g (h.lt hg) (fun hm=>hn g hm hg)
theorem Qfp (ws : List Wd) {i n:Nat} (h:ws.length=n) (hi:i≤n):((ws.map wv).take i).length=i:=by rw [List.length_take,List.length_map]; omega
theorem QnG (ws : List Wd) {i n:Nat} (h:ws.length=n) (hi:i<n):(ws.map wv).take (i+1)=(ws.map wv).take i++[wv (wget ws i)]:=by
  have hl:i<(ws.map wv).length:=by rw [List.length_map]; omega
  rw [List.take_succ_eq_append_getElem hl]
  have:(ws.map wv)[i]=wv (wget ws i):=by
    unfold wget
    rw [List.getElem_map,List.getD_eq_getElem?_getD,List.getElem?_eq_getElem (by omega)]
    rfl
  rw [this]
theorem Qe0 (ws : List Wd) (i k:Nat) (hk:k<i):nth ((ws.map wv).take i) k=wv (wget ws k):=by
  rw [←nth_map]
  unfold nth
  rw [List.getD_eq_getElem?_getD,List.getD_eq_getElem?_getD,List.getElem?_take,if_pos hk]
theorem u64s (x : Int) (h:0≤x∧x<18446744073709551616):IntKind.u64.wrap x=x:=by rw [wrap64]; omega
theorem QmE (t : List Int):∃ q,(padT t).length=128*q:=by
  refine ⟨(t.length+(1+fillN t.length+16))/128,?_⟩
  rw [padT,List.length_append,Qe1]
  unfold fillN; omega
theorem QmV (P : List Int) (m k:Nat) (h:k<128):nth ((P.drop (128*m)).take 128) k=nth P (128*m+k):=by
  unfold nth
  rw [List.getD_eq_getElem?_getD,List.getD_eq_getElem?_getD,List.getElem?_take,if_pos h,List.getElem?_drop]
theorem Qmj (x : Wd):IntKind.u64.wrap (wv x*256)=wv (x<<<8):=by
  rw [wrap64]; unfold wv; rw [BitVec.toNat_shiftLeft,Nat.shiftLeft_eq]; omega
theorem Qqs (x : Wd) (y:Int) (h:0≤y∧y<256):IntKind.u64.wrap (wv (x<<<8)+y)=wv (x<<<8|||BitVec.ofInt 64 y):=by
  have e1:(x<<<8).toNat=(x.toNat%72057594037927936)<<<8:=by rw [BitVec.toNat_shiftLeft,Nat.shiftLeft_eq,Nat.shiftLeft_eq]; omega
  have e2:(BitVec.ofInt 64 y).toNat=y.toNat:=by simp only [BitVec.toNat_ofInt]; omega
  rw [wrap64]; unfold wv
  rw [BitVec.toNat_or,e1,e2,←Nat.shiftLeft_add_eq_or_of_lt (show y.toNat<2^8 by omega),Nat.shiftLeft_eq]
  omega
theorem Qp6 {P b:List Int} {m j p:Nat} (hP:Qaj P) (hb:b=(P.drop (128*m)).take 128) (hj:j<16) (hp:p<8) :
    IntKind.u64.wrap (wv (hor b j p<<<8)+nth P (128*m+8*j+p))=wv (hor b j (p+1)):=by
  have e:nth P (128*m+8*j+p)=nth b (8*j+p):=by rw [hb,QmV _ _ _ (by omega),Nat.add_assoc]
  rw [e]
  have hB:=hP.nth (128*m+8*j+p)
  rw [e] at hB
  exact Qqs _ _ (by omega)
theorem QjY {t : List Int} (h:Qaj t):Qaj (padT t):=fun x hx=>by
  rcases List.mem_append.1 hx with e | e
  · exact h x e
  · exact Qf2 _ x e
def shf (l : List Int) (j:Nat):List Int:=l.take (j+1)++(l.drop j).take (7-j)
theorem Qk2 {a b c d e f g h:Int} {j:Nat} (hj:j≤7):(shf [a,b,c,d,e,f,g,h] j).length=8:=by
  rcases (show j=0∨j=1∨j=2∨j=3∨j=4∨j=5∨j=6∨j=7 by omega) with rfl | rfl | rfl | rfl | rfl | rfl | rfl | rfl <;> rfl
theorem Qol {a b c d e f g h:Int} {j:Nat} (h0:0<j) (hj:j≤7):(shf [a,b,c,d,e,f,g,h] j).set j (nth (shf [a,b,c,d,e,f,g,h] j) (j-1))=shf [a,b,c,d,e,f,g,h] (j-1):=by
  rcases (show j=1∨j=2∨j=3∨j=4∨j=5∨j=6∨j=7 by omega) with rfl | rfl | rfl | rfl | rfl | rfl | rfl <;> rfl
set_option maxRecDepth 20000 in
theorem QnJ (t : List Int) (v:Value) (B:Nat) (w:World) (hlen:t.length≤900000000) (htb:Qaj t) (hr:RdK .u8 B t v w):Calls Tryd.prog 24 #[v] w (Ret w (.agg (ints .u8 (dig t)))):=by
 obtain ⟨a_t,c_t,rfl,-⟩:=id hr
 refine enter 236 [(0,.slice a_t t.length c_t)] Tryd.func24 rfl rfl kj rfl <| sgC fun K1 hK1=>Qah (ints .u8 (List.replicate 64 0)) 30 2 rfl kj kj fun g2 W1 l2 e1 r2_1=>?_
 have x1:=Ext.tr (Rely.Ext.refl w) e1
 refine sgN hK1 <| sgC fun K3 hK3=>Qah (ints .u64 (List.replicate 8 0)) 85 3 rfl kj kj fun g4 W2 l4 e2 r4_2=>?_
 have x2:=Ext.tr x1 e2
 have b4:=qT x1.size l4
 refine sgN hK3 <| sgC fun K5 hK5=>QbC (fun v W'=>(fun v W=>∃ g,v=.slice (some ⟨g,0,none⟩) 8 8∧W2.heap.size≤g∧W.heap[g]? = some (.cells (ints .u64 Qbo) 46)) v W'∧Ext W2 W') 52 #[] 24 rfl kj kj ((QqL _).mono (by rintro e w' ⟨v,rfl,e1,hv⟩; exact ⟨v,rfl,hv,e1⟩)) fun vv6 W3 hh6=>?_
 obtain ⟨hv6,e3⟩:=hh6
 obtain ⟨gd7,rfl,ld7,rd7_3⟩:=hv6
 have b7:=qT x2.size ld7
 refine sg 1 kj <| sgN hK5 <| wp_seq_k fun K8 hK8=>sgB kj <| wp_block ?_
 have nx7_4:gd7≠g4:=(Qas r4_2 ld7)
 refine QaN (fun (s1:Nat)=>[(0,.slice a_t t.length c_t),(2,.pointer (some ⟨g2,0,none⟩)),(3,.pointer (some ⟨g4,0,none⟩)),(4,.slice (some ⟨gd7,0,none⟩) 8 8),(5,.int .i64 ((s1:Nat):Int))]) (fun (s1:Nat) W=>(s1≤8)∧(W.heap[g4]? = some (.cells (ints .u64 (fill Qbo 8 s1)) 85))∧(QaE [g4] W3 W)∧(Ext w W)) (fun (s1:Nat)=>8-s1) 0 ⟨kj,kj,kj,kj,kj,trivial⟩ ⟨(Nat.zero_le _),(QaJ (Qaa r4_2 e3) (fill_zero Qbo 8).symm),(QaE.refl [g4] W3),(Ext.tr x2 e3)⟩ fun s1 X1 V1 hI1=>?_
 obtain ⟨i,hs1⟩:∃ z,z=s1:=⟨_,rfl⟩
 subst hs1
 obtain ⟨hi,q4_1,kk1,xx1⟩:=hI1
 replace hi:i≤8:=hi
 replace q4_1:V1.heap[g4]? = some (.cells (ints .u64 (fill Qbo 8 i)) 85):=q4_1
 replace kk1:QaE [g4] W3 V1:=kk1
 replace xx1:Ext w V1:=xx1
 have q4:=kk1
 refine wp_seq_k fun K10 hK10=>sgB kj <| QaD (t:=decide (((i:Nat):Int)<8)) kj (fun c12=>?_) (fun c12=>?_)
 ·skip
  have hlt26:i<8:=by have:=of_decide_eq_true c12; omega
  refine wp_skip <| hK10 _ _ <| wp_seq_k fun K13 hK13=>wp_block <| Qat <| sg 3 kj <| Qag (.pointer (some ⟨gd7,i,none⟩)) 32 rfl kj (QaT 86 _ _ .i64 (i) gd7 8 8 46 rfl kj kj kj kj (by omega)) <| Qag (.int .u64 (nth (Qbo) i)) 33 rfl kj (Qak 46 _ gd7 i 46 _ (.int .u64 (nth (Qbo) i)) _ (QaE.row q4 rd7_3 (Qb4 nx7_4 Qcl)) rfl kj (Qar _ _ _ (Nat.lt_of_lt_of_eq (by omega) (show Qbo.length=8 from rfl).symm)) kj) <| Qag (.pointer (some ⟨g4,i,none⟩)) 34 rfl kj (QaR _ _ _ .i64 (i) _ 8 46 rfl kj kj kj kj (by omega)) <| Qai g4 _ (ints .u64 ((fill Qbo 8 i).set i (nth (Qbo) i))) 85 q4_1 rfl kj (Qaz 46 _ _ g4 i 85 _ _ q4_1 rfl kj kj kj (Nat.lt_of_lt_of_eq (by omega) (fill_len (n:=8) rfl hi).symm)) fun W5 p5 r4_5=>?_
  have x5:=Puts.ext p5 xx1 b4
  refine Qa7 <| hK13 _ _ <| Qat <| sg 1 kj <| Qag (.int .i64 ((i+1:Nat):Int)) 28 rfl kj (Qam (u:=.int .i64 (IntKind.i64.wrap (((i:Nat):Int)+1))) kj (congrArg (Value.int .i64) (i64n _ _ (by omega) (by omega)))) <| sg 1 kj <| Qa7 ?_
  repeat (first | with_reducible refine goX1 ?_ | with_reducible refine goX2 ?_ | with_reducible refine goX3 ?_)
  exact QaI (i+1) ⟨kj,kj,kj,kj,kj,trivial⟩ ⟨(by omega),(QaJ r4_5 (fill_set rfl hlt26)),(QaE.puts q4 p5 (.inl (by simp))),x5⟩ (by show 8-(i+1)<8-i; omega)
 ·skip
  have heq26:i=8:=by have:=of_decide_eq_false c12; omega
  have r4_4_14:V1.heap[g4]? = some (.cells (ints .u64 ([wv S0.a,wv S0.b,wv S0.c,wv S0.d,wv S0.e,wv S0.f,wv S0.g,wv S0.h])) 85):=QaJ q4_1 (by rw [heq26]; decide +kernel)
  refine wp_exit <| hK8 _ _ <| sgC fun K15 hK15=>QbC (fun v W'=>(fun v W=>∃ g,v=.slice (some ⟨g,0,none⟩) 80 80∧V1.heap.size≤g∧W.heap[g]? = some (.cells (ints .u64 Qc8) 46)) v W'∧Ext V1 W') 53 #[] 35 rfl kj kj ((Qq5 _).mono (by rintro e w' ⟨v,rfl,e1,hv⟩; exact ⟨v,rfl,hv,e1⟩)) fun vv16 W5 hh16=>?_
  obtain ⟨hv16,e5⟩:=hh16
  have x5:=Ext.tr xx1 e5
  obtain ⟨gd17,rfl,ld17,rd17_5⟩:=hv16
  have b17:=qT xx1.size ld17
  refine sg 1 kj <| sgN hK15 <| sgC fun K18 hK18=>sg 1 kj ?_
  have r4_5:=(Qaa r4_4_14 e5)
  refine QbC (fun v W'=>(OwnN .u8 5 W5.heap.size (padT t)) v W'∧Ext W5 W') 54 #[.slice a_t t.length c_t,.int .i64 128,.int .i64 16] 37 rfl kj kj ((padC t _ _ _ hlen (RdK.ext hr x5)).mono (by rintro e w' ⟨v,rfl,e1,hv⟩; exact ⟨v,rfl,hv,e1⟩)) fun vv19 W6 hh19=>?_
  obtain ⟨hv19,e6⟩:=hh19
  obtain ⟨am20,cm20,rfl,-⟩:=id (OwnN.rd hv19)
  have nb20_4:(.slice am20 ((padT t).length) cm20:Value).ownBlock≠some g4:=OwnN.nb hv19 (QaB r4_5)
  refine sg 1 kj <| sgN hK18 <| wp_seq_k fun K21 hK21=>sgB kj <| wp_block ?_
  have nx17_4:gd17≠g4:=(Qas r4_4_14 ld17)
  obtain ⟨q,hq⟩:=QmE t
  have hPl:(padT t).length≤900000400:=by rw [padT,List.length_append,Qe1]; unfold fillN; omega
  have hPb:Qaj (padT t):=QjY htb
  refine QaN (fun (s2:Nat)=>[(2,.pointer (some ⟨g2,0,none⟩)),(3,.pointer (some ⟨g4,0,none⟩)),(6,.slice (some ⟨gd17,0,none⟩) 80 80),(7,.slice am20 ((padT t).length) cm20),(8,.int .i64 ((128*s2:Nat):Int))]) (fun (s2:Nat) W=>(s2≤q)∧(W.heap[g4]? = some (.cells (ints .u64 ([wv (absorb S0 (padT t) s2).a,wv (absorb S0 (padT t) s2).b,wv (absorb S0 (padT t) s2).c,wv (absorb S0 (padT t) s2).d,wv (absorb S0 (padT t) s2).e,wv (absorb S0 (padT t) s2).f,wv (absorb S0 (padT t) s2).g,wv (absorb S0 (padT t) s2).h])) 85))∧(QaE [g4] W6 W)∧(Ext w W)) (fun (s2:Nat)=>q-s2) 0 ⟨kj,kj,kj,kj,kj,trivial⟩ ⟨(Nat.zero_le _),(Qaa r4_5 e6),(QaE.refl [g4] W6),(Ext.tr x5 e6)⟩ fun s2 X2 V2 hI2=>?_
  obtain ⟨m,hs2⟩:∃ z,z=s2:=⟨_,rfl⟩
  subst hs2
  obtain ⟨hm,q4_2,kk2,xx2⟩:=hI2
  replace hm:m≤q:=hm
  replace q4_2:V2.heap[g4]? = some (.cells (ints .u64 ([wv (absorb S0 (padT t) m).a,wv (absorb S0 (padT t) m).b,wv (absorb S0 (padT t) m).c,wv (absorb S0 (padT t) m).d,wv (absorb S0 (padT t) m).e,wv (absorb S0 (padT t) m).f,wv (absorb S0 (padT t) m).g,wv (absorb S0 (padT t) m).h])) 85):=q4_2
  replace kk2:QaE [g4] W6 V2:=kk2
  replace xx2:Ext w V2:=xx2
  have q7:=kk2
  refine wp_seq_k fun K23 hK23=>sgC fun K24 hK24=>sg 3 kj <| Qag (.bool (decide (m<q))) 41 rfl kj (Qam (u:=.bool (decide (((128*m:Nat):Int)<(((padT t).length:Nat):Int)))) kj (congrArg Value.bool (by rw [hq]; exact decide_eq_decide.2 (by omega)))) ?_
  refine sgN hK24 <| QaD (t:=decide (m<q)) kj (fun c25=>?_) (fun c25=>?_)
  ·skip
   have hlt41:m<q:=by have:=of_decide_eq_true c25; omega
   obtain ⟨b,hb⟩:∃ z,z=((padT t).drop (128*m)).take 128:=⟨_,rfl⟩
   obtain ⟨s,hs⟩:∃ z,z=absorb S0 (padT t) m:=⟨_,rfl⟩
   have r4_7_26:V2.heap[g4]? = some (.cells (ints .u64 ([wv s.a,wv s.b,wv s.c,wv s.d,wv s.e,wv s.f,wv s.g,wv s.h])) 85):=QaJ q4_2 (by rw [hs])
   refine wp_skip <| hK23 _ _ <| wp_seq_k fun K27 hK27=>wp_block <| sgB kj <| wp_seq_k fun K29 hK29=>sgB kj <| wp_block <| QaN (fun (s3:Nat×Value)=>[(2,.pointer (some ⟨g2,0,none⟩)),(3,.pointer (some ⟨g4,0,none⟩)),(6,.slice (some ⟨gd17,0,none⟩) 80 80),(7,.slice am20 ((padT t).length) cm20),(8,.int .i64 ((128*m:Nat):Int)),(9,s3.2),(10,.int .i64 ((s3.1:Nat):Int))]) (fun (s3:Nat×Value) W=>(s3.1≤16)∧(OwnN .u64 46 V2.heap.size (((w80 b).map wv).take s3.1) s3.2 W)∧(Ext V2 W)∧(Ext w W)) (fun (s3:Nat×Value)=>16-s3.1) (0,(.slice none 0 0)) ⟨kj,kj,kj,kj,kj,kj,kj,trivial⟩ ⟨(Nat.zero_le _),(QmJ _ _ _ _),(Rely.Ext.refl V2),xx2⟩ fun s3 X3 V3 hI3=>?_
   obtain ⟨j,u⟩:=s3
   obtain ⟨hj,hu,kk3,xx3⟩:=hI3
   replace hj:j≤16:=hj
   replace hu:OwnN .u64 46 V2.heap.size (((w80 b).map wv).take j) u V3:=hu
   replace kk3:Ext V2 V3:=kk3
   replace xx3:Ext w V3:=xx3
   have e8:=kk3
   have f32_7:=(OwnN.keepsL hv19 q7 (Qlg nb20_4 QnP))
   have f33_8:=(f32_7.ext e8)
   have hnp_31:(padT t).length=128*q:=hq
   obtain ⟨gcp_31,ocp_31,hap_31,hlp_31,hcp_31⟩:=Qe6 (OwnN.rd f33_8) (by rw [hnp_31]; omega)
   refine wp_seq_k fun K34 hK34=>sgB kj <| QaD (t:=decide (((j:Nat):Int)<16)) kj (fun c36=>?_) (fun c36=>?_)
   ·skip
    have hlt45:j<16:=by have:=of_decide_eq_true c36; omega
    refine wp_skip <| hK34 _ _ <| wp_seq_k fun K37 hK37=>wp_block <| sgB kj <| wp_seq_k fun K39 hK39=>sgB kj <| wp_block <| QaN (fun (s4:Nat)=>[(2,.pointer (some ⟨g2,0,none⟩)),(3,.pointer (some ⟨g4,0,none⟩)),(6,.slice (some ⟨gd17,0,none⟩) 80 80),(7,.slice am20 ((padT t).length) cm20),(8,.int .i64 ((128*m:Nat):Int)),(9,u),(10,.int .i64 ((j:Nat):Int)),(11,.int .u64 (wv (hor b j s4))),(12,.int .i64 ((s4:Nat):Int))]) (fun (s4:Nat) W=>(s4≤8)∧(Ext V3 W)∧(Ext w W)) (fun (s4:Nat)=>8-s4) 0 ⟨kj,kj,kj,kj,kj,kj,kj,kj,kj,trivial⟩ ⟨(Nat.zero_le _),(Rely.Ext.refl V3),xx3⟩ fun s4 X4 V4 hI4=>?_
    obtain ⟨z,hs4⟩:∃ z,z=s4:=⟨_,rfl⟩
    subst hs4
    obtain ⟨hz,kk4,xx4⟩:=hI4
    replace hz:z≤8:=hz
    replace kk4:Ext V3 V4:=kk4
    replace xx4:Ext w V4:=xx4
    have e9:=kk4
    have hnp_41:(padT t).length=128*q:=hq
    obtain ⟨gcp_41,ocp_41,hap_41,hlp_41,hcp_41⟩:=Qe6 (OwnN.rd (f33_8.ext e9)) (by rw [hnp_41]; omega)
    refine wp_seq_k fun K43 hK43=>sgB kj <| QaD (t:=decide (((z:Nat):Int)<8)) kj (fun c45=>?_) (fun c45=>?_)
    ·skip
     have hlt49:z<8:=by have:=of_decide_eq_true c45; omega
     refine wp_skip <| hK43 _ _ <| wp_seq_k fun K46 hK46=>wp_block <| Qat <| sg 1 kj <| Qag (.int .u64 (wv (hor b j z<<<8))) 53 rfl kj (Qam kj (congrArg (Value.int .u64) (Qmj _))) <| sg 3 kj <| Qag (.int .i64 ((8*j:Nat):Int)) 57 rfl kj (Qam (u:=.int .i64 (IntKind.i64.wrap (8*((j:Nat):Int)))) kj (congrArg (Value.int .i64) (i64n _ _ (by omega) (by omega)))) <| Qag (.int .i64 (((128*m)+(8*j):Nat):Int)) 58 rfl kj (Qam (u:=.int .i64 (IntKind.i64.wrap (((128*m:Nat):Int)+((8*j:Nat):Int)))) kj (congrArg (Value.int .i64) (i64n _ _ (by omega) (by omega)))) ?_
     refine sg 1 kj <| Qag (.int .i64 ((((128*m)+(8*j))+z:Nat):Int)) 60 rfl kj (Qam (u:=.int .i64 (IntKind.i64.wrap ((((128*m)+(8*j):Nat):Int)+((z:Nat):Int)))) kj (congrArg (Value.int .i64) (i64n _ _ (by omega) (by omega)))) <| Qag (.pointer (some ⟨gcp_41,ocp_41+(((128*m)+(8*j))+z),none⟩)) 61 rfl kj (QcE 27 _ _ .i64 (((128*m)+(8*j))+z) gcp_41 ocp_41 ((padT t).length) cm20 5 am20 _ hap_41 rfl rfl kj kj kj kj (Nat.lt_of_lt_of_eq (show ((128*m)+(8*j))+z<128*q by omega) hnp_41.symm)) <| Qag (.int .u8 (nth (padT t) ((((128*m)+(8*j))+z)))) 62 rfl kj (QbD 5 _ _ (.int .u8 (nth (padT t) ((((128*m)+(8*j))+z)))) (hcp_41 (((128*m)+(8*j))+z) (Nat.lt_of_lt_of_eq (show ((128*m)+(8*j))+z<128*q by omega) hnp_41.symm)) rfl kj kj) <| Qag (.int .u64 (nth (padT t) (128*m+8*j+z))) 63 rfl kj (Qam (u:=.int .u64 (IntKind.u64.wrap (nth (padT t) ((((128*m)+(8*j))+z))))) kj (congrArg (Value.int .u64) (u64s _ (by have:=hPb.nth (128*m+8*j+z); omega)))) ?_
     refine Qag (.int .u64 (wv (hor b j (z+1)))) 64 rfl kj (Qam (u:=.int .u64 (IntKind.u64.wrap ((wv (hor b j z<<<8))+(nth (padT t) (128*m+8*j+z))))) kj (congrArg (Value.int .u64) (Qp6 hPb hb hlt45 hlt49))) <| sg 1 kj <| Qa7 <| hK46 _ _ <| Qat <| sg 1 kj <| Qag (.int .i64 ((z+1:Nat):Int)) 51 rfl kj (Qam (u:=.int .i64 (IntKind.i64.wrap (((z:Nat):Int)+1))) kj (congrArg (Value.int .i64) (i64n _ _ (by omega) (by omega)))) <| sg 1 kj <| Qa7 ?_
     repeat (first | with_reducible refine goX1 ?_ | with_reducible refine goX2 ?_ | with_reducible refine goX3 ?_)
     exact QaI (z+1) ⟨kj,kj,kj,kj,kj,kj,kj,kj,kj,trivial⟩ ⟨(by omega),e9,xx4⟩ (by show 8-(z+1)<8-z; omega)
    ·skip
     have heq49:z=8:=by have:=of_decide_eq_false c45; omega
     subst heq49
     refine wp_exit <| hK39 _ _ <| Qat <| sg 2 kj <| QaW (ints .u64 ([(wv (hor b j 8))])) 46 1 67 rfl kj kj fun g47 W10 l47 e10 r47_10=>?_
     have x10:=Ext.tr xx4 e10
     have b47:=qT xx4.size l47
     have y7_9:=(Rely.Ext.trans e8 e9)
     have y7_10:=(Rely.Ext.trans y7_9 e10)
     refine QcD (k:=.u64) (T:=46) (xs:=((w80 b).map wv).take j) (ys:=[(wv (hor b j 8))]) (V:=V2) 8 (.tmp 65) (.tmp 67) 86 rfl kj kj (by decide) 68 rfl kj kj kj ((hu.ext e9).ext e10) (Qcc (xs:=[(wv (hor b j 8))]) (n:=1) rfl r47_10 (QaB r47_10) (show 1≤maxLen from by decide)) (by rw [Qfp _ (Qc9 b) (by omega)]; show _+1≤_; omega) y7_10 fun z1 W11 f50 y11 l11=>?_
     have x11:=Ext.low x10 l11 xx2.size
     refine sg 1 kj <| Qa7 <| hK37 _ _ <| Qat <| sg 1 kj <| Qag (.int .i64 ((j+1:Nat):Int)) 47 rfl kj (Qam (u:=.int .i64 (IntKind.i64.wrap (((j:Nat):Int)+1))) kj (congrArg (Value.int .i64) (i64n _ _ (by omega) (by omega)))) <| sg 1 kj <| Qa7 ?_
     repeat (first | with_reducible refine goX1 ?_ | with_reducible refine goX2 ?_ | with_reducible refine goX3 ?_)
     exact QaI ((j+1),z1) ⟨kj,kj,kj,kj,kj,kj,kj,trivial⟩ ⟨(by omega),(by rw [QnG _ (Qc9 b) (by omega),Qky b j hlt45]; exact f50),y11,x11⟩ (by show 16-(j+1)<16-j; omega)
   ·skip
    have heq45:j=16:=by have:=of_decide_eq_false c36; omega
    subst heq45
    refine wp_exit <| hK29 _ _ <| wp_seq_k fun K52 hK52=>sgB kj <| wp_block <| QaN (fun (s5:Nat×Value)=>[(2,.pointer (some ⟨g2,0,none⟩)),(3,.pointer (some ⟨g4,0,none⟩)),(6,.slice (some ⟨gd17,0,none⟩) 80 80),(7,.slice am20 ((padT t).length) cm20),(8,.int .i64 ((128*m:Nat):Int)),(9,s5.2),(13,.int .i64 ((s5.1:Nat):Int))]) (fun (s5:Nat×Value) W=>(16≤s5.1)∧(s5.1≤80)∧(OwnN .u64 46 V2.heap.size (((w80 b).map wv).take s5.1) s5.2 W)∧(Below V2.heap.size V3 W)∧(Ext w W)) (fun (s5:Nat×Value)=>80-s5.1) (16,u) ⟨kj,kj,kj,kj,kj,kj,kj,trivial⟩ ⟨(qR _),(show (16:Nat)≤80 by decide),hu,(RowKit.Below.refl _ V3),xx3⟩ fun s5 X5 V5 hI5=>?_
    obtain ⟨i,u⟩:=s5
    obtain ⟨h16,hi,hu,kk5,xx5⟩:=hI5
    replace h16:16≤i:=h16
    replace hi:i≤80:=hi
    replace hu:OwnN .u64 46 V2.heap.size (((w80 b).map wv).take i) u V5:=hu
    replace kk5:Below V2.heap.size V3 V5:=kk5
    replace xx5:Ext w V5:=xx5
    have l9:=kk5
    obtain ⟨a9,c9,rfl,-⟩:=id (OwnN.rd hu)
    have hnw_54:(((w80 b).map wv).take i).length=i:=(Qfp _ (Qc9 b) hi)
    obtain ⟨gcw_54,ocw_54,haw_54,hlw_54,hcw_54⟩:=Qe6 (OwnN.rd hu) (by rw [hnw_54]; omega)
    refine wp_seq_k fun K55 hK55=>sgB kj <| QaD (t:=decide (((i:Nat):Int)<80)) kj (fun c57=>?_) (fun c57=>?_)
    ·skip
     have hlt70:i<80:=by have:=of_decide_eq_true c57; omega
     refine wp_skip <| hK55 _ _ <| wp_seq_k fun K58 hK58=>wp_block <| sgC fun K59 hK59=>sg 2 kj <| Qag (.int .i64 ((i-15:Nat):Int)) 75 rfl kj (Qam (u:=.int .i64 (IntKind.i64.wrap (((i:Nat):Int)-15))) kj (congrArg (Value.int .i64) (i64n _ _ (by omega) (by omega)))) <| Qag (.pointer (some ⟨gcw_54,ocw_54+(i-15),none⟩)) 76 rfl kj (QcE 86 _ _ .i64 (i-15) gcw_54 ocw_54 ((((w80 b).map wv).take i).length) c9 46 a9 _ haw_54 rfl rfl kj kj kj kj (Nat.lt_of_lt_of_eq (show i-15<i by omega) hnw_54.symm)) <| Qag (.int .u64 (wv (wget (w80 b) (i-15)))) 77 rfl kj (QbD 46 _ _ (.int .u64 (wv (wget (w80 b) (i-15)))) ((hcw_54 (i-15) (Nat.lt_of_lt_of_eq (show i-15<i by omega) hnw_54.symm)).trans (congrArg (fun z=>some (Value.int .u64 z)) (Qe0 (w80 b) i (i-15) (by omega)))) rfl kj kj) <| sg 1 kj ?_
     refine sgN hK59 <| sgC fun K60 hK60=>sg 2 kj <| Qag (.int .i64 ((i-2:Nat):Int)) 80 rfl kj (Qam (u:=.int .i64 (IntKind.i64.wrap (((i:Nat):Int)-2))) kj (congrArg (Value.int .i64) (i64n _ _ (by omega) (by omega)))) <| Qag (.pointer (some ⟨gcw_54,ocw_54+(i-2),none⟩)) 81 rfl kj (QcE 86 _ _ .i64 (i-2) gcw_54 ocw_54 ((((w80 b).map wv).take i).length) c9 46 a9 _ haw_54 rfl rfl kj kj kj kj (Nat.lt_of_lt_of_eq (show i-2<i by omega) hnw_54.symm)) <| Qag (.int .u64 (wv (wget (w80 b) (i-2)))) 82 rfl kj (QbD 46 _ _ (.int .u64 (wv (wget (w80 b) (i-2)))) ((hcw_54 (i-2) (Nat.lt_of_lt_of_eq (show i-2<i by omega) hnw_54.symm)).trans (congrArg (fun z=>some (Value.int .u64 z)) (Qe0 (w80 b) i (i-2) (by omega)))) rfl kj kj) <| sg 1 kj <| sgN hK60 <| Qbk 31 [⟨none,[(9,none)]⟩,⟨none,[(15,none)]⟩,⟨none,[(84,some 1)]⟩,⟨none,[(15,none)]⟩,⟨none,[(86,some 3)]⟩,⟨none,[(85,some 2),(87,some 4)]⟩,⟨none,[(15,none)]⟩,⟨none,[(89,some 6)]⟩,⟨none,[(88,some 5),(90,some 7)]⟩,⟨none,[(9,none)]⟩,⟨none,[(13,none)]⟩,⟨none,[(93,some 10)]⟩,⟨none,[(92,some 9),(94,some 11)]⟩,⟨none,[(95,some 12)]⟩,⟨none,[(91,some 8),(96,some 13)]⟩,⟨none,[(14,none)]⟩,⟨none,[(98,some 15)]⟩,⟨none,[(14,none)]⟩,⟨none,[(100,some 17)]⟩,⟨none,[(99,some 16),(101,some 18)]⟩,⟨none,[(14,none)]⟩,⟨none,[(103,some 20)]⟩,⟨none,[(102,some 19),(104,some 21)]⟩,⟨none,[(97,some 14),(105,some 22)]⟩,⟨none,[(9,none)]⟩,⟨none,[(13,none)]⟩,⟨none,[(108,some 25)]⟩,⟨none,[(107,some 24),(109,some 26)]⟩,⟨none,[(110,some 27)]⟩,⟨none,[(106,some 23),(111,some 28)]⟩,⟨none,[(112,some 29)]⟩] kj kj fun F hF=>QaK (Qau _) (.slice a9 ((((w80 b).map wv).take i).length) c9) kj kj (fun W=>kj) ?_
     refine QaK (Qau _) (.int .u64 (wv (wget (w80 b) (i-2)))) kj kj (fun W=>kj) <| Qd6 (Qau _) (.int .u64 (wv (rr (wget (w80 b) (i-2)) 19))) 55 #[.int .u64 (wv (wget (w80 b) (i-2))),.int .u64 19] kj kj (fun W=>kj) (fun W hR=>(Qgf (wget (w80 b) (i-2)) 19 (19) (by decide) (by decide) (by decide)) W) <| QaK (Qau _) (.int .u64 (wv (wget (w80 b) (i-2)))) kj kj (fun W=>kj) <| Qd6 (Qau _) (.int .u64 (wv (rr (wget (w80 b) (i-2)) 61))) 55 #[.int .u64 (wv (wget (w80 b) (i-2))),.int .u64 61] kj kj (fun W=>kj) (fun W hR=>(Qgf (wget (w80 b) (i-2)) 61 (61) (by decide) (by decide) (by decide)) W) <| QaK (Qau _) (.int .u64 (wv (((rr (wget (w80 b) (i-2)) 19))^^^((rr (wget (w80 b) (i-2)) 61))))) kj kj (fun W=>(Qam kj (congrArg (Value.int .u64) (w_xor _ _)))) <| QaK (Qau _) (.int .u64 (wv (wget (w80 b) (i-2)))) kj kj (fun W=>kj) <| QaK (Qau _) (.int .u64 (wv (((wget (w80 b) (i-2)))>>>6))) kj kj (fun W=>(Qby .shr _ _ _ _ .u64 .u64 _ _ _ rfl kj kj (Qdo _ _ _ _ _ _ (by decide) (w_shr _ _ 6 rfl (by decide))))) <| QaK (Qau _) (.int .u64 (wv (((((rr (wget (w80 b) (i-2)) 19))^^^((rr (wget (w80 b) (i-2)) 61))))^^^((((wget (w80 b) (i-2)))>>>6))))) kj kj (fun W=>(Qam kj (congrArg (Value.int .u64) (w_xor _ _)))) <| QaK (Qau _) (.slice a9 ((((w80 b).map wv).take i).length) c9) kj kj (fun W=>kj) <| QaK (Qau _) (.int .i64 ((i:Nat):Int)) kj kj (fun W=>kj) ?_
     refine QaK (Qau _) (.int .i64 ((i-7:Nat):Int)) kj kj (fun W=>(Qam (u:=.int .i64 (IntKind.i64.wrap (((i:Nat):Int)-7))) kj (congrArg (Value.int .i64) (i64n _ _ (by omega) (by omega))))) <| QaK (Qau _) (.pointer (some ⟨gcw_54,ocw_54+(i-7),none⟩)) kj kj (fun W=>(QcE 86 _ _ .i64 (i-7) gcw_54 ocw_54 ((((w80 b).map wv).take i).length) c9 46 a9 _ haw_54 rfl rfl kj kj kj kj (Nat.lt_of_lt_of_eq (show i-7<i by omega) hnw_54.symm))) <| Qb1 (Qau _) (.int .u64 (wv (wget (w80 b) (i-7)))) kj kj (fun W hR=>(QbD 46 _ _ (.int .u64 (wv (wget (w80 b) (i-7)))) (((Below.cell (Rely.Ext.trans (Qae _) hR) hlw_54).trans (hcw_54 (i-7) (Nat.lt_of_lt_of_eq (show i-7<i by omega) hnw_54.symm))).trans (congrArg (fun z=>some (Value.int .u64 z)) (Qe0 (w80 b) i (i-7) (by omega)))) rfl kj kj)) <| QaK (Qau _) (.int .u64 (wv (((((((rr (wget (w80 b) (i-2)) 19))^^^((rr (wget (w80 b) (i-2)) 61))))^^^((((wget (w80 b) (i-2)))>>>6))))+((wget (w80 b) (i-7)))))) kj kj (fun W=>(Qam kj (congrArg (Value.int .u64) (w_add _ _)))) <| QaK (Qau _) (.int .u64 (wv (wget (w80 b) (i-15)))) kj kj (fun W=>kj) <| Qd6 (Qau _) (.int .u64 (wv (rr (wget (w80 b) (i-15)) 1))) 55 #[.int .u64 (wv (wget (w80 b) (i-15))),.int .u64 1] kj kj (fun W=>kj) (fun W hR=>(Qgf (wget (w80 b) (i-15)) 1 (1) (by decide) (by decide) (by decide)) W) <| QaK (Qau _) (.int .u64 (wv (wget (w80 b) (i-15)))) kj kj (fun W=>kj) <| Qd6 (Qau _) (.int .u64 (wv (rr (wget (w80 b) (i-15)) 8))) 55 #[.int .u64 (wv (wget (w80 b) (i-15))),.int .u64 8] kj kj (fun W=>kj) (fun W hR=>(Qgf (wget (w80 b) (i-15)) 8 (8) (by decide) (by decide) (by decide)) W) <| QaK (Qau _) (.int .u64 (wv (((rr (wget (w80 b) (i-15)) 1))^^^((rr (wget (w80 b) (i-15)) 8))))) kj kj (fun W=>(Qam kj (congrArg (Value.int .u64) (w_xor _ _)))) <| QaK (Qau _) (.int .u64 (wv (wget (w80 b) (i-15)))) kj kj (fun W=>kj) ?_
     refine QaK (Qau _) (.int .u64 (wv (((wget (w80 b) (i-15)))>>>7))) kj kj (fun W=>(Qby .shr _ _ _ _ .u64 .u64 _ _ _ rfl kj kj (Qdo _ _ _ _ _ _ (by decide) (w_shr _ _ 7 rfl (by decide))))) <| QaK (Qau _) (.int .u64 (wv (((((rr (wget (w80 b) (i-15)) 1))^^^((rr (wget (w80 b) (i-15)) 8))))^^^((((wget (w80 b) (i-15)))>>>7))))) kj kj (fun W=>(Qam kj (congrArg (Value.int .u64) (w_xor _ _)))) <| QaK (Qau _) (.int .u64 (wv (((((((((rr (wget (w80 b) (i-2)) 19))^^^((rr (wget (w80 b) (i-2)) 61))))^^^((((wget (w80 b) (i-2)))>>>6))))+((wget (w80 b) (i-7)))))+((((((rr (wget (w80 b) (i-15)) 1))^^^((rr (wget (w80 b) (i-15)) 8))))^^^((((wget (w80 b) (i-15)))>>>7))))))) kj kj (fun W=>(Qam kj (congrArg (Value.int .u64) (w_add _ _)))) <| QaK (Qau _) (.slice a9 ((((w80 b).map wv).take i).length) c9) kj kj (fun W=>kj) <| QaK (Qau _) (.int .i64 ((i:Nat):Int)) kj kj (fun W=>kj) <| QaK (Qau _) (.int .i64 ((i-16:Nat):Int)) kj kj (fun W=>(Qam (u:=.int .i64 (IntKind.i64.wrap (((i:Nat):Int)-16))) kj (congrArg (Value.int .i64) (i64n _ _ (by omega) (by omega))))) <| QaK (Qau _) (.pointer (some ⟨gcw_54,ocw_54+(i-16),none⟩)) kj kj (fun W=>(QcE 86 _ _ .i64 (i-16) gcw_54 ocw_54 ((((w80 b).map wv).take i).length) c9 46 a9 _ haw_54 rfl rfl kj kj kj kj (Nat.lt_of_lt_of_eq (show i-16<i by omega) hnw_54.symm))) <| Qb1 (Qau _) (.int .u64 (wv (wget (w80 b) (i-16)))) kj kj (fun W hR=>(QbD 46 _ _ (.int .u64 (wv (wget (w80 b) (i-16)))) (((Below.cell (Rely.Ext.trans (Qae _) hR) hlw_54).trans (hcw_54 (i-16) (Nat.lt_of_lt_of_eq (show i-16<i by omega) hnw_54.symm))).trans (congrArg (fun z=>some (Value.int .u64 z)) (Qe0 (w80 b) i (i-16) (by omega)))) rfl kj kj)) <| QaK (Qau _) (.int .u64 (wv (((((((((((rr (wget (w80 b) (i-2)) 19))^^^((rr (wget (w80 b) (i-2)) 61))))^^^((((wget (w80 b) (i-2)))>>>6))))+((wget (w80 b) (i-7)))))+((((((rr (wget (w80 b) (i-15)) 1))^^^((rr (wget (w80 b) (i-15)) 8))))^^^((((wget (w80 b) (i-15)))>>>7))))))+((wget (w80 b) (i-16)))))) kj kj (fun W=>(Qam kj (congrArg (Value.int .u64) (w_add _ _)))) <| QhX (Qau _) (ints .u64 ([(wv (((((((((((rr (wget (w80 b) (i-2)) 19))^^^((rr (wget (w80 b) (i-2)) 61))))^^^((((wget (w80 b) (i-2)))>>>6))))+((wget (w80 b) (i-7)))))+((((((rr (wget (w80 b) (i-15)) 1))^^^((rr (wget (w80 b) (i-15)) 8))))^^^((((wget (w80 b) (i-15)))>>>7))))))+((wget (w80 b) (i-16)))))])) 46 1 (NewS.stable _ _ _ _) kj kj (fun W=>kj) ?_
     refine QdL (hF _ fun W10 e10=>?_)
     simp only [List.nil_append,List.cons_append,List.take_succ_cons,List.take_zero,List.drop_succ_cons,List.drop_zero,finE,up]
     intro vv61 hv61
     clear hF
     have x10:=Ext.tr xx5 e10
     obtain ⟨g61,rfl,l61,r61_10⟩:=hv61
     have b61:=qT xx5.size l61
     have y7_9:=(Ext.low e8 l9 (Rely.Ext.refl V2).size)
     have y7_10:=(Rely.Ext.trans y7_9 e10)
     refine QcD (k:=.u64) (T:=46) (xs:=((w80 b).map wv).take i) (ys:=[(wv (((((((((((rr (wget (w80 b) (i-2)) 19))^^^((rr (wget (w80 b) (i-2)) 61))))^^^((((wget (w80 b) (i-2)))>>>6))))+((wget (w80 b) (i-7)))))+((((((rr (wget (w80 b) (i-15)) 1))^^^((rr (wget (w80 b) (i-15)) 8))))^^^((((wget (w80 b) (i-15)))>>>7))))))+((wget (w80 b) (i-16)))))]) (V:=V2) 8 (.tmp 83) (.tmp 113) 86 rfl kj kj (by decide) 114 rfl kj kj kj (hu.ext e10) (Qcc (xs:=[(wv (((((((((((rr (wget (w80 b) (i-2)) 19))^^^((rr (wget (w80 b) (i-2)) 61))))^^^((((wget (w80 b) (i-2)))>>>6))))+((wget (w80 b) (i-7)))))+((((((rr (wget (w80 b) (i-15)) 1))^^^((rr (wget (w80 b) (i-15)) 8))))^^^((((wget (w80 b) (i-15)))>>>7))))))+((wget (w80 b) (i-16)))))]) (n:=1) rfl r61_10 (QaB r61_10) (show 1≤maxLen from by decide)) (by rw [Qfp _ (Qc9 b) (by omega)]; show _+1≤_; omega) y7_10 fun z2 W11 f63 y11 l11=>?_
     have x11:=Ext.low x10 l11 xx2.size
     refine sg 1 kj <| Qa7 <| hK58 _ _ <| Qat <| sg 1 kj <| Qag (.int .i64 ((i+1:Nat):Int)) 72 rfl kj (Qam (u:=.int .i64 (IntKind.i64.wrap (((i:Nat):Int)+1))) kj (congrArg (Value.int .i64) (i64n _ _ (by omega) (by omega)))) <| sg 1 kj <| Qa7 ?_
     repeat (first | with_reducible refine goX1 ?_ | with_reducible refine goX2 ?_ | with_reducible refine goX3 ?_)
     exact QaI ((i+1),z2) ⟨kj,kj,kj,kj,kj,kj,kj,trivial⟩ ⟨(by omega),(by omega),(by rw [QnG _ (Qc9 b) (by omega),QiQ b i h16 hlt70]; exact f63),(RowKit.Below.trans (RowKit.Below.trans l9 (RowKit.Below.mono e10 y7_9.size)) l11),x11⟩ (by show 80-(i+1)<80-i; omega)
    ·skip
     have heq70:i=80:=by have:=of_decide_eq_false c57; omega
     subst heq70
     have nb9_4:(.slice a9 ((((w80 b).map wv).take 80).length) c9:Value).ownBlock≠some g4:=OwnN.nb hu (QaB r4_7_26)
     refine wp_exit <| hK52 _ _ <| sgC fun K65 hK65=>?_
     have r4_8:=(Qaa r4_7_26 e8)
     have r4_9:=(Qll l9 r4_8 (QaB r4_7_26))
     refine Qag (.agg (ints .u64 ([wv s.a,wv s.b,wv s.c,wv s.d,wv s.e,wv s.f,wv s.g,wv s.h]))) 115 rfl kj (Qac 85 _ g4 85 _ _ r4_9 rfl kj kj (isz (n:=8) kj kj)) <| Qah (ints .u64 (List.replicate 8 0)) 85 16 rfl kj kj fun g67 W10 l67 e10 r67_10=>?_
     have x10:=Ext.tr xx5 e10
     have b67:=qT xx5.size l67
     refine Qai g67 _ (ints .u64 ([wv s.a,wv s.b,wv s.c,wv s.d,wv s.e,wv s.f,wv s.g,wv s.h])) 85 r67_10 rfl kj (Qaf 85 _ _ g67 85 _ _ r67_10 rfl kj kj (isz (n:=8) kj kj) (eqsz (n:=8) ((Qad _ _).trans (qZ (n:=8))) kj) (ints_one _ _)) fun W11 p11 r67_11=>?_
     have x11:=Puts.ext p11 x10 b67
     refine sgN hK65 <| wp_seq_k fun K68 hK68=>sgB kj <| wp_block ?_
     have r17_7:=(QaE.row q7 (Qaa rd17_5 e6) (Qb4 nx17_4 Qcl))
     have r17_9:=(Qll l9 (Qaa r17_7 e8) (QaB r17_7))
     have nx17_67:gd17≠g67:=(Qab r17_9 l67)
     have nb7_15:(.slice am20 ((padT t).length) cm20:Value).ownBlock≠some g67:=fun e=>by have h1:=OwnN.lt (OwnN.low (n:=0) f33_8 f32_7 l9) e; have h2:=l67; omega
     have nb9_15:(.slice a9 ((((w80 b).map wv).take 80).length) c9:Value).ownBlock≠some g67:=fun e=>by have h1:=OwnN.lt hu e; have h2:=l67; omega
     refine QaN (fun (s6:Nat)=>[(2,.pointer (some ⟨g2,0,none⟩)),(3,.pointer (some ⟨g4,0,none⟩)),(6,.slice (some ⟨gd17,0,none⟩) 80 80),(7,.slice am20 ((padT t).length) cm20),(8,.int .i64 ((128*m:Nat):Int)),(9,.slice a9 ((((w80 b).map wv).take 80).length) c9),(16,.pointer (some ⟨g67,0,none⟩)),(17,.int .i64 ((s6:Nat):Int))]) (fun (s6:Nat) W=>(s6≤80)∧(W.heap[g67]? = some (.cells (ints .u64 ([wv (rnds KK (w80 b) s s6).a,wv (rnds KK (w80 b) s s6).b,wv (rnds KK (w80 b) s s6).c,wv (rnds KK (w80 b) s s6).d,wv (rnds KK (w80 b) s s6).e,wv (rnds KK (w80 b) s s6).f,wv (rnds KK (w80 b) s s6).g,wv (rnds KK (w80 b) s s6).h])) 85))∧(QaE [g67] W11 W)∧(Ext w W)) (fun (s6:Nat)=>80-s6) 0 ⟨kj,kj,kj,kj,kj,kj,kj,kj,trivial⟩ ⟨(Nat.zero_le _),r67_11,(QaE.refl [g67] W11),x11⟩ fun s6 X6 V6 hI6=>?_
     obtain ⟨i,hs6⟩:∃ z,z=s6:=⟨_,rfl⟩
     subst hs6
     obtain ⟨hi,q67_6,kk6,xx6⟩:=hI6
     replace hi:i≤80:=hi
     replace q67_6:V6.heap[g67]? = some (.cells (ints .u64 ([wv (rnds KK (w80 b) s i).a,wv (rnds KK (w80 b) s i).b,wv (rnds KK (w80 b) s i).c,wv (rnds KK (w80 b) s i).d,wv (rnds KK (w80 b) s i).e,wv (rnds KK (w80 b) s i).f,wv (rnds KK (w80 b) s i).g,wv (rnds KK (w80 b) s i).h])) 85):=q67_6
     replace kk6:QaE [g67] W11 V6:=kk6
     replace xx6:Ext w V6:=xx6
     have q12:=kk6
     have hnw_70:(((w80 b).map wv).take 80).length=80:=(Qfp _ (Qc9 b) (qR _))
     obtain ⟨gcw_70,ocw_70,haw_70,hlw_70,hcw_70⟩:=Qe6 (OwnN.rd (OwnN.keepsL ((hu.ext e10).puts p11 nb9_15) q12 (Qlg nb9_15 QnP))) (by rw [hnw_70]; omega)
     refine wp_seq_k fun K74 hK74=>sgB kj <| QaD (t:=decide (((i:Nat):Int)<80)) kj (fun c76=>?_) (fun c76=>?_)
     ·skip
      have hlt117:i<80:=by have:=of_decide_eq_true c76; omega
      refine wp_skip <| hK74 _ _ <| wp_seq_k fun K77 hK77=>wp_block <| wp_seq_k fun K78 hK78=>Qbk 36 [⟨none,[(16,none)]⟩,⟨none,[(120,some 0)]⟩,⟨none,[(16,none)]⟩,⟨none,[(122,some 2)]⟩,⟨none,[(123,some 3)]⟩,⟨none,[(16,none)]⟩,⟨none,[(125,some 5)]⟩,⟨none,[(126,some 6)]⟩,⟨none,[(124,some 4),(127,some 7)]⟩,⟨none,[(16,none)]⟩,⟨none,[(129,some 9)]⟩,⟨none,[(130,some 10)]⟩,⟨none,[(128,some 8),(131,some 11)]⟩,⟨none,[(121,some 1),(132,some 12)]⟩,⟨none,[(16,none)]⟩,⟨none,[(134,some 14)]⟩,⟨none,[(16,none)]⟩,⟨none,[(136,some 16)]⟩,⟨none,[(135,some 15),(137,some 17)]⟩,⟨none,[(16,none)]⟩,⟨none,[(139,some 19)]⟩,⟨none,[(140,some 20)]⟩,⟨none,[(16,none)]⟩,⟨none,[(142,some 22)]⟩,⟨none,[(141,some 21),(143,some 23)]⟩,⟨none,[(138,some 18),(144,some 24)]⟩,⟨none,[(133,some 13),(145,some 25)]⟩,⟨none,[(6,none)]⟩,⟨none,[(17,none)]⟩,⟨none,[(147,some 27),(148,some 28)]⟩,⟨none,[(149,some 29)]⟩,⟨none,[(146,some 26),(150,some 30)]⟩,⟨none,[(9,none)]⟩,⟨none,[(17,none)]⟩,⟨none,[(152,some 32),(153,some 33)]⟩,⟨none,[(154,some 34)]⟩] kj kj fun F hF=>QaK (Qau _) (.pointer (some ⟨g67,7,none⟩)) kj kj (fun W=>kj) <| Qb1 (Qau _) (.int .u64 (wv (rnds KK (w80 b) s i).h)) kj kj (fun W hR=>(Qak 46 _ g67 7 85 _ (.int .u64 (wv (rnds KK (w80 b) s i).h)) _ (Qaa (Qaa q67_6 (Qae _)) hR) rfl kj kj kj)) <| QaK (Qau _) (.pointer (some ⟨g67,4,none⟩)) kj kj (fun W=>kj) <| Qb1 (Qau _) (.int .u64 (wv (rnds KK (w80 b) s i).e)) kj kj (fun W hR=>(Qak 46 _ g67 4 85 _ (.int .u64 (wv (rnds KK (w80 b) s i).e)) _ (Qaa (Qaa q67_6 (Qae _)) hR) rfl kj kj kj)) ?_
      refine Qd6 (Qau _) (.int .u64 (wv (rr ((rnds KK (w80 b) s i).e) 14))) 55 #[.int .u64 (wv (rnds KK (w80 b) s i).e),.int .u64 14] kj kj (fun W=>kj) (fun W hR=>(Qgf ((rnds KK (w80 b) s i).e) 14 (14) (by decide) (by decide) (by decide)) W) <| QaK (Qau _) (.pointer (some ⟨g67,4,none⟩)) kj kj (fun W=>kj) <| Qb1 (Qau _) (.int .u64 (wv (rnds KK (w80 b) s i).e)) kj kj (fun W hR=>(Qak 46 _ g67 4 85 _ (.int .u64 (wv (rnds KK (w80 b) s i).e)) _ (Qaa (Qaa q67_6 (Qae _)) hR) rfl kj kj kj)) <| Qd6 (Qau _) (.int .u64 (wv (rr ((rnds KK (w80 b) s i).e) 18))) 55 #[.int .u64 (wv (rnds KK (w80 b) s i).e),.int .u64 18] kj kj (fun W=>kj) (fun W hR=>(Qgf ((rnds KK (w80 b) s i).e) 18 (18) (by decide) (by decide) (by decide)) W) <| QaK (Qau _) (.int .u64 (wv (((rr ((rnds KK (w80 b) s i).e) 14))^^^((rr ((rnds KK (w80 b) s i).e) 18))))) kj kj (fun W=>(Qam kj (congrArg (Value.int .u64) (w_xor _ _)))) <| QaK (Qau _) (.pointer (some ⟨g67,4,none⟩)) kj kj (fun W=>kj) <| Qb1 (Qau _) (.int .u64 (wv (rnds KK (w80 b) s i).e)) kj kj (fun W hR=>(Qak 46 _ g67 4 85 _ (.int .u64 (wv (rnds KK (w80 b) s i).e)) _ (Qaa (Qaa q67_6 (Qae _)) hR) rfl kj kj kj)) <| Qd6 (Qau _) (.int .u64 (wv (rr ((rnds KK (w80 b) s i).e) 41))) 55 #[.int .u64 (wv (rnds KK (w80 b) s i).e),.int .u64 41] kj kj (fun W=>kj) (fun W hR=>(Qgf ((rnds KK (w80 b) s i).e) 41 (41) (by decide) (by decide) (by decide)) W) <| QaK (Qau _) (.int .u64 (wv (((((rr ((rnds KK (w80 b) s i).e) 14))^^^((rr ((rnds KK (w80 b) s i).e) 18))))^^^((rr ((rnds KK (w80 b) s i).e) 41))))) kj kj (fun W=>(Qam kj (congrArg (Value.int .u64) (w_xor _ _)))) <| QaK (Qau _) (.int .u64 (wv (((rnds KK (w80 b) s i).h)+((((((rr ((rnds KK (w80 b) s i).e) 14))^^^((rr ((rnds KK (w80 b) s i).e) 18))))^^^((rr ((rnds KK (w80 b) s i).e) 41))))))) kj kj (fun W=>(Qam kj (congrArg (Value.int .u64) (w_add _ _)))) ?_
      refine QaK (Qau _) (.pointer (some ⟨g67,4,none⟩)) kj kj (fun W=>kj) <| Qb1 (Qau _) (.int .u64 (wv (rnds KK (w80 b) s i).e)) kj kj (fun W hR=>(Qak 46 _ g67 4 85 _ (.int .u64 (wv (rnds KK (w80 b) s i).e)) _ (Qaa (Qaa q67_6 (Qae _)) hR) rfl kj kj kj)) <| QaK (Qau _) (.pointer (some ⟨g67,5,none⟩)) kj kj (fun W=>kj) <| Qb1 (Qau _) (.int .u64 (wv (rnds KK (w80 b) s i).f)) kj kj (fun W hR=>(Qak 46 _ g67 5 85 _ (.int .u64 (wv (rnds KK (w80 b) s i).f)) _ (Qaa (Qaa q67_6 (Qae _)) hR) rfl kj kj kj)) <| QaK (Qau _) (.int .u64 (wv (((rnds KK (w80 b) s i).e)&&&((rnds KK (w80 b) s i).f)))) kj kj (fun W=>(Qam kj (congrArg (Value.int .u64) (w_and _ _)))) <| QaK (Qau _) (.pointer (some ⟨g67,4,none⟩)) kj kj (fun W=>kj) <| Qb1 (Qau _) (.int .u64 (wv (rnds KK (w80 b) s i).e)) kj kj (fun W hR=>(Qak 46 _ g67 4 85 _ (.int .u64 (wv (rnds KK (w80 b) s i).e)) _ (Qaa (Qaa q67_6 (Qae _)) hR) rfl kj kj kj)) <| QaK (Qau _) (.int .u64 (wv (~~~((rnds KK (w80 b) s i).e)))) kj kj (fun W=>(Qam kj (congrArg (Value.int .u64) (w_not _)))) <| QaK (Qau _) (.pointer (some ⟨g67,6,none⟩)) kj kj (fun W=>kj) <| Qb1 (Qau _) (.int .u64 (wv (rnds KK (w80 b) s i).g)) kj kj (fun W hR=>(Qak 46 _ g67 6 85 _ (.int .u64 (wv (rnds KK (w80 b) s i).g)) _ (Qaa (Qaa q67_6 (Qae _)) hR) rfl kj kj kj)) ?_
      refine QaK (Qau _) (.int .u64 (wv (((~~~((rnds KK (w80 b) s i).e)))&&&((rnds KK (w80 b) s i).g)))) kj kj (fun W=>(Qam kj (congrArg (Value.int .u64) (w_and _ _)))) <| QaK (Qau _) (.int .u64 (wv (((((rnds KK (w80 b) s i).e)&&&((rnds KK (w80 b) s i).f)))^^^((((~~~((rnds KK (w80 b) s i).e)))&&&((rnds KK (w80 b) s i).g)))))) kj kj (fun W=>(Qam kj (congrArg (Value.int .u64) (w_xor _ _)))) <| QaK (Qau _) (.int .u64 (wv (((((rnds KK (w80 b) s i).h)+((((((rr ((rnds KK (w80 b) s i).e) 14))^^^((rr ((rnds KK (w80 b) s i).e) 18))))^^^((rr ((rnds KK (w80 b) s i).e) 41))))))+((((((rnds KK (w80 b) s i).e)&&&((rnds KK (w80 b) s i).f)))^^^((((~~~((rnds KK (w80 b) s i).e)))&&&((rnds KK (w80 b) s i).g)))))))) kj kj (fun W=>(Qam kj (congrArg (Value.int .u64) (w_add _ _)))) <| QaK (Qau _) (.slice (some ⟨gd17,0,none⟩) 80 80) kj kj (fun W=>kj) <| QaK (Qau _) (.int .i64 ((i:Nat):Int)) kj kj (fun W=>kj) <| QaK (Qau _) (.pointer (some ⟨gd17,i,none⟩)) kj kj (fun W=>(QaT 86 _ _ .i64 (i) gd17 80 80 46 rfl kj kj kj kj (by omega))) <| Qb1 (Qau _) (.int .u64 (wv (wget KK i))) kj kj (fun W hR=>(Qak 46 _ gd17 i 46 _ (.int .u64 (wv (wget KK i))) _ (Qaa (Qaa (QaE.row q12 (Puts.row p11 (Qaa r17_9 e10) nx17_67) (Qb4 nx17_67 Qcl)) (Qae _)) hR) rfl kj ((Qar _ _ _ (Nat.lt_of_lt_of_eq (by omega) (show Qc8.length=80 from rfl).symm)).trans (congrArg (fun z=>some (Value.int .u64 z)) (QnS i hlt117))) kj)) <| QaK (Qau _) (.int .u64 (wv (((((((rnds KK (w80 b) s i).h)+((((((rr ((rnds KK (w80 b) s i).e) 14))^^^((rr ((rnds KK (w80 b) s i).e) 18))))^^^((rr ((rnds KK (w80 b) s i).e) 41))))))+((((((rnds KK (w80 b) s i).e)&&&((rnds KK (w80 b) s i).f)))^^^((((~~~((rnds KK (w80 b) s i).e)))&&&((rnds KK (w80 b) s i).g)))))))+((wget KK i))))) kj kj (fun W=>(Qam kj (congrArg (Value.int .u64) (w_add _ _)))) <| QaK (Qau _) (.slice a9 ((((w80 b).map wv).take 80).length) c9) kj kj (fun W=>kj) <| QaK (Qau _) (.int .i64 ((i:Nat):Int)) kj kj (fun W=>kj) ?_
      refine QaK (Qau _) (.pointer (some ⟨gcw_70,ocw_70+i,none⟩)) kj kj (fun W=>(QcE 86 _ _ .i64 i gcw_70 ocw_70 ((((w80 b).map wv).take 80).length) c9 46 a9 _ haw_70 rfl rfl kj kj kj kj (Nat.lt_of_lt_of_eq (show i<80 by omega) hnw_70.symm))) <| Qb1 (Qau _) (.int .u64 (wv (wget (w80 b) i))) kj kj (fun W hR=>(QbD 46 _ _ (.int .u64 (wv (wget (w80 b) i))) (((Below.cell (Rely.Ext.trans (Qae _) hR) hlw_70).trans (hcw_70 i (Nat.lt_of_lt_of_eq (show i<80 by omega) hnw_70.symm))).trans (congrArg (fun z=>some (Value.int .u64 z)) (Qe0 (w80 b) 80 i hlt117))) rfl kj kj)) <| QdL (hF _ fun W13 e13=>?_)
      simp only [List.nil_append,List.cons_append,List.take_succ_cons,List.take_zero,List.drop_succ_cons,List.drop_zero,finE,up]
      clear hF
      refine Qag (.int .u64 (wv (((((((((rnds KK (w80 b) s i).h)+((((((rr ((rnds KK (w80 b) s i).e) 14))^^^((rr ((rnds KK (w80 b) s i).e) 18))))^^^((rr ((rnds KK (w80 b) s i).e) 41))))))+((((((rnds KK (w80 b) s i).e)&&&((rnds KK (w80 b) s i).f)))^^^((((~~~((rnds KK (w80 b) s i).e)))&&&((rnds KK (w80 b) s i).g)))))))+((wget KK i))))+((wget (w80 b) i))))) 156 rfl kj (Qam kj (congrArg (Value.int .u64) (w_add _ _))) <| sg 1 kj <| sgN hK78 <| wp_seq_k fun K79 hK79=>Qbk 28 [⟨none,[(16,none)]⟩,⟨none,[(157,some 0)]⟩,⟨none,[(158,some 1)]⟩,⟨none,[(16,none)]⟩,⟨none,[(160,some 3)]⟩,⟨none,[(161,some 4)]⟩,⟨none,[(159,some 2),(162,some 5)]⟩,⟨none,[(16,none)]⟩,⟨none,[(164,some 7)]⟩,⟨none,[(165,some 8)]⟩,⟨none,[(163,some 6),(166,some 9)]⟩,⟨none,[(16,none)]⟩,⟨none,[(168,some 11)]⟩,⟨none,[(16,none)]⟩,⟨none,[(170,some 13)]⟩,⟨none,[(169,some 12),(171,some 14)]⟩,⟨none,[(16,none)]⟩,⟨none,[(173,some 16)]⟩,⟨none,[(16,none)]⟩,⟨none,[(175,some 18)]⟩,⟨none,[(174,some 17),(176,some 19)]⟩,⟨none,[(172,some 15),(177,some 20)]⟩,⟨none,[(16,none)]⟩,⟨none,[(179,some 22)]⟩,⟨none,[(16,none)]⟩,⟨none,[(181,some 24)]⟩,⟨none,[(180,some 23),(182,some 25)]⟩,⟨none,[(178,some 21),(183,some 26)]⟩] kj kj fun F hF=>QaK (Qau _) (.pointer (some ⟨g67,0,none⟩)) kj kj (fun W=>kj) ?_
      have r67_13:=(Qaa q67_6 e13)
      refine Qb1 (Qau _) (.int .u64 (wv (rnds KK (w80 b) s i).a)) kj kj (fun W hR=>(Qak 46 _ g67 0 85 _ (.int .u64 (wv (rnds KK (w80 b) s i).a)) _ (Qaa (Qaa r67_13 (Qae _)) hR) rfl kj kj kj)) <| Qd6 (Qau _) (.int .u64 (wv (rr ((rnds KK (w80 b) s i).a) 28))) 55 #[.int .u64 (wv (rnds KK (w80 b) s i).a),.int .u64 28] kj kj (fun W=>kj) (fun W hR=>(Qgf ((rnds KK (w80 b) s i).a) 28 (28) (by decide) (by decide) (by decide)) W) <| QaK (Qau _) (.pointer (some ⟨g67,0,none⟩)) kj kj (fun W=>kj) <| Qb1 (Qau _) (.int .u64 (wv (rnds KK (w80 b) s i).a)) kj kj (fun W hR=>(Qak 46 _ g67 0 85 _ (.int .u64 (wv (rnds KK (w80 b) s i).a)) _ (Qaa (Qaa r67_13 (Qae _)) hR) rfl kj kj kj)) <| Qd6 (Qau _) (.int .u64 (wv (rr ((rnds KK (w80 b) s i).a) 34))) 55 #[.int .u64 (wv (rnds KK (w80 b) s i).a),.int .u64 34] kj kj (fun W=>kj) (fun W hR=>(Qgf ((rnds KK (w80 b) s i).a) 34 (34) (by decide) (by decide) (by decide)) W) <| QaK (Qau _) (.int .u64 (wv (((rr ((rnds KK (w80 b) s i).a) 28))^^^((rr ((rnds KK (w80 b) s i).a) 34))))) kj kj (fun W=>(Qam kj (congrArg (Value.int .u64) (w_xor _ _)))) <| QaK (Qau _) (.pointer (some ⟨g67,0,none⟩)) kj kj (fun W=>kj) <| Qb1 (Qau _) (.int .u64 (wv (rnds KK (w80 b) s i).a)) kj kj (fun W hR=>(Qak 46 _ g67 0 85 _ (.int .u64 (wv (rnds KK (w80 b) s i).a)) _ (Qaa (Qaa r67_13 (Qae _)) hR) rfl kj kj kj)) <| Qd6 (Qau _) (.int .u64 (wv (rr ((rnds KK (w80 b) s i).a) 39))) 55 #[.int .u64 (wv (rnds KK (w80 b) s i).a),.int .u64 39] kj kj (fun W=>kj) (fun W hR=>(Qgf ((rnds KK (w80 b) s i).a) 39 (39) (by decide) (by decide) (by decide)) W) <| QaK (Qau _) (.int .u64 (wv (((((rr ((rnds KK (w80 b) s i).a) 28))^^^((rr ((rnds KK (w80 b) s i).a) 34))))^^^((rr ((rnds KK (w80 b) s i).a) 39))))) kj kj (fun W=>(Qam kj (congrArg (Value.int .u64) (w_xor _ _)))) ?_
      refine QaK (Qau _) (.pointer (some ⟨g67,0,none⟩)) kj kj (fun W=>kj) <| Qb1 (Qau _) (.int .u64 (wv (rnds KK (w80 b) s i).a)) kj kj (fun W hR=>(Qak 46 _ g67 0 85 _ (.int .u64 (wv (rnds KK (w80 b) s i).a)) _ (Qaa (Qaa r67_13 (Qae _)) hR) rfl kj kj kj)) <| QaK (Qau _) (.pointer (some ⟨g67,1,none⟩)) kj kj (fun W=>kj) <| Qb1 (Qau _) (.int .u64 (wv (rnds KK (w80 b) s i).b)) kj kj (fun W hR=>(Qak 46 _ g67 1 85 _ (.int .u64 (wv (rnds KK (w80 b) s i).b)) _ (Qaa (Qaa r67_13 (Qae _)) hR) rfl kj kj kj)) <| QaK (Qau _) (.int .u64 (wv (((rnds KK (w80 b) s i).a)&&&((rnds KK (w80 b) s i).b)))) kj kj (fun W=>(Qam kj (congrArg (Value.int .u64) (w_and _ _)))) <| QaK (Qau _) (.pointer (some ⟨g67,0,none⟩)) kj kj (fun W=>kj) <| Qb1 (Qau _) (.int .u64 (wv (rnds KK (w80 b) s i).a)) kj kj (fun W hR=>(Qak 46 _ g67 0 85 _ (.int .u64 (wv (rnds KK (w80 b) s i).a)) _ (Qaa (Qaa r67_13 (Qae _)) hR) rfl kj kj kj)) <| QaK (Qau _) (.pointer (some ⟨g67,2,none⟩)) kj kj (fun W=>kj) <| Qb1 (Qau _) (.int .u64 (wv (rnds KK (w80 b) s i).c)) kj kj (fun W hR=>(Qak 46 _ g67 2 85 _ (.int .u64 (wv (rnds KK (w80 b) s i).c)) _ (Qaa (Qaa r67_13 (Qae _)) hR) rfl kj kj kj)) <| QaK (Qau _) (.int .u64 (wv (((rnds KK (w80 b) s i).a)&&&((rnds KK (w80 b) s i).c)))) kj kj (fun W=>(Qam kj (congrArg (Value.int .u64) (w_and _ _)))) ?_
      refine QaK (Qau _) (.int .u64 (wv (((((rnds KK (w80 b) s i).a)&&&((rnds KK (w80 b) s i).b)))^^^((((rnds KK (w80 b) s i).a)&&&((rnds KK (w80 b) s i).c)))))) kj kj (fun W=>(Qam kj (congrArg (Value.int .u64) (w_xor _ _)))) <| QaK (Qau _) (.pointer (some ⟨g67,1,none⟩)) kj kj (fun W=>kj) <| Qb1 (Qau _) (.int .u64 (wv (rnds KK (w80 b) s i).b)) kj kj (fun W hR=>(Qak 46 _ g67 1 85 _ (.int .u64 (wv (rnds KK (w80 b) s i).b)) _ (Qaa (Qaa r67_13 (Qae _)) hR) rfl kj kj kj)) <| QaK (Qau _) (.pointer (some ⟨g67,2,none⟩)) kj kj (fun W=>kj) <| Qb1 (Qau _) (.int .u64 (wv (rnds KK (w80 b) s i).c)) kj kj (fun W hR=>(Qak 46 _ g67 2 85 _ (.int .u64 (wv (rnds KK (w80 b) s i).c)) _ (Qaa (Qaa r67_13 (Qae _)) hR) rfl kj kj kj)) <| QaK (Qau _) (.int .u64 (wv (((rnds KK (w80 b) s i).b)&&&((rnds KK (w80 b) s i).c)))) kj kj (fun W=>(Qam kj (congrArg (Value.int .u64) (w_and _ _)))) <| QaK (Qau _) (.int .u64 (wv (((((((rnds KK (w80 b) s i).a)&&&((rnds KK (w80 b) s i).b)))^^^((((rnds KK (w80 b) s i).a)&&&((rnds KK (w80 b) s i).c)))))^^^((((rnds KK (w80 b) s i).b)&&&((rnds KK (w80 b) s i).c)))))) kj kj (fun W=>(Qam kj (congrArg (Value.int .u64) (w_xor _ _)))) <| QdL (hF _ fun W14 e14=>?_)
      simp only [List.nil_append,List.cons_append,List.take_succ_cons,List.take_zero,List.drop_succ_cons,List.drop_zero,finE,up]
      clear hF
      have x14:=Ext.tr (Ext.tr xx6 e13) e14
      refine Qag (.int .u64 (wv (((((((rr ((rnds KK (w80 b) s i).a) 28))^^^((rr ((rnds KK (w80 b) s i).a) 34))))^^^((rr ((rnds KK (w80 b) s i).a) 39))))+((((((((rnds KK (w80 b) s i).a)&&&((rnds KK (w80 b) s i).b)))^^^((((rnds KK (w80 b) s i).a)&&&((rnds KK (w80 b) s i).c)))))^^^((((rnds KK (w80 b) s i).b)&&&((rnds KK (w80 b) s i).c)))))))) 185 rfl kj (Qam kj (congrArg (Value.int .u64) (w_add _ _))) <| sg 1 kj <| sgN hK79 <| wp_seq_k fun K80 hK80=>sgB kj <| wp_block <| QaN (fun (s7:Nat)=>[(2,.pointer (some ⟨g2,0,none⟩)),(3,.pointer (some ⟨g4,0,none⟩)),(6,.slice (some ⟨gd17,0,none⟩) 80 80),(7,.slice am20 ((padT t).length) cm20),(8,.int .i64 ((128*m:Nat):Int)),(9,.slice a9 ((((w80 b).map wv).take 80).length) c9),(16,.pointer (some ⟨g67,0,none⟩)),(17,.int .i64 ((i:Nat):Int)),(18,.int .u64 (wv (((((((((rnds KK (w80 b) s i).h)+((((((rr ((rnds KK (w80 b) s i).e) 14))^^^((rr ((rnds KK (w80 b) s i).e) 18))))^^^((rr ((rnds KK (w80 b) s i).e) 41))))))+((((((rnds KK (w80 b) s i).e)&&&((rnds KK (w80 b) s i).f)))^^^((((~~~((rnds KK (w80 b) s i).e)))&&&((rnds KK (w80 b) s i).g)))))))+((wget KK i))))+((wget (w80 b) i))))),(19,.int .u64 (wv (((((((rr ((rnds KK (w80 b) s i).a) 28))^^^((rr ((rnds KK (w80 b) s i).a) 34))))^^^((rr ((rnds KK (w80 b) s i).a) 39))))+((((((((rnds KK (w80 b) s i).a)&&&((rnds KK (w80 b) s i).b)))^^^((((rnds KK (w80 b) s i).a)&&&((rnds KK (w80 b) s i).c)))))^^^((((rnds KK (w80 b) s i).b)&&&((rnds KK (w80 b) s i).c)))))))),(20,.int .i64 ((s7:Nat):Int))]) (fun (s7:Nat) W=>(s7≤7)∧(W.heap[g67]? = some (.cells (ints .u64 (shf [wv (rnds KK (w80 b) s i).a,wv (rnds KK (w80 b) s i).b,wv (rnds KK (w80 b) s i).c,wv (rnds KK (w80 b) s i).d,wv (rnds KK (w80 b) s i).e,wv (rnds KK (w80 b) s i).f,wv (rnds KK (w80 b) s i).g,wv (rnds KK (w80 b) s i).h] s7)) 85))∧(QaE [g67] W14 W)∧(Ext w W)) (fun (s7:Nat)=>s7) 7 ⟨kj,kj,kj,kj,kj,kj,kj,kj,kj,kj,kj,trivial⟩ ⟨(qR _),(QaJ (Qaa r67_13 e14) (show _=shf _ 7 from rfl)),(QaE.refl [g67] W14),x14⟩ fun s7 X7 V7 hI7=>?_
      obtain ⟨j,hs7⟩:∃ z,z=s7:=⟨_,rfl⟩
      subst hs7
      obtain ⟨hj,q67_7,kk7,xx7⟩:=hI7
      replace hj:j≤7:=hj
      replace q67_7:V7.heap[g67]? = some (.cells (ints .u64 (shf [wv (rnds KK (w80 b) s i).a,wv (rnds KK (w80 b) s i).b,wv (rnds KK (w80 b) s i).c,wv (rnds KK (w80 b) s i).d,wv (rnds KK (w80 b) s i).e,wv (rnds KK (w80 b) s i).f,wv (rnds KK (w80 b) s i).g,wv (rnds KK (w80 b) s i).h] j)) 85):=q67_7
      replace kk7:QaE [g67] W14 V7:=kk7
      replace xx7:Ext w V7:=xx7
      have q15:=kk7
      refine wp_seq_k fun K82 hK82=>sgB kj <| QaD (t:=decide (((j:Nat):Int)>0)) kj (fun c84=>?_) (fun c84=>?_)
      ·skip
       have hj0:0<j:=by have:=of_decide_eq_true c84; omega
       refine wp_skip <| hK82 _ _ <| wp_seq_k fun K85 hK85=>wp_block <| Qat <| sg 2 kj <| Qag (.int .i64 (((j-1:Nat):Int))) 192 rfl kj (Qam (u:=.int .i64 (IntKind.i64.wrap (((j:Nat):Int)-1))) kj (congrArg (Value.int .i64) (i64n _ _ (by omega) (by omega)))) <| Qag (.pointer (some ⟨g67,j-1,none⟩)) 193 rfl kj (QaR _ _ _ .i64 (j-1) _ 8 46 rfl kj kj kj kj (by omega)) <| Qag (.int .u64 (nth (shf [wv (rnds KK (w80 b) s i).a,wv (rnds KK (w80 b) s i).b,wv (rnds KK (w80 b) s i).c,wv (rnds KK (w80 b) s i).d,wv (rnds KK (w80 b) s i).e,wv (rnds KK (w80 b) s i).f,wv (rnds KK (w80 b) s i).g,wv (rnds KK (w80 b) s i).h] j) (j-1))) 194 rfl kj (Qak 46 _ g67 (j-1) 85 _ (.int .u64 (nth (shf [wv (rnds KK (w80 b) s i).a,wv (rnds KK (w80 b) s i).b,wv (rnds KK (w80 b) s i).c,wv (rnds KK (w80 b) s i).d,wv (rnds KK (w80 b) s i).e,wv (rnds KK (w80 b) s i).f,wv (rnds KK (w80 b) s i).g,wv (rnds KK (w80 b) s i).h] j) (j-1))) _ q67_7 rfl kj (Qar _ _ _ (Nat.lt_of_lt_of_eq (by omega) (Qk2 hj).symm)) kj) <| Qag (.pointer (some ⟨g67,j,none⟩)) 195 rfl kj (QaR _ _ _ .i64 (j) _ 8 46 rfl kj kj kj kj (by omega)) ?_
       refine Qai g67 _ (ints .u64 ((shf [wv (rnds KK (w80 b) s i).a,wv (rnds KK (w80 b) s i).b,wv (rnds KK (w80 b) s i).c,wv (rnds KK (w80 b) s i).d,wv (rnds KK (w80 b) s i).e,wv (rnds KK (w80 b) s i).f,wv (rnds KK (w80 b) s i).g,wv (rnds KK (w80 b) s i).h] j).set j (nth (shf [wv (rnds KK (w80 b) s i).a,wv (rnds KK (w80 b) s i).b,wv (rnds KK (w80 b) s i).c,wv (rnds KK (w80 b) s i).d,wv (rnds KK (w80 b) s i).e,wv (rnds KK (w80 b) s i).f,wv (rnds KK (w80 b) s i).g,wv (rnds KK (w80 b) s i).h] j) (j-1)))) 85 q67_7 rfl kj (Qaz 46 _ _ g67 j 85 _ _ q67_7 rfl kj kj kj (Nat.lt_of_lt_of_eq (by omega) (Qk2 hj).symm)) fun W16 p16 r67_16=>?_
       have x16:=Puts.ext p16 xx7 b67
       refine Qa7 <| hK85 _ _ <| Qat <| sg 1 kj <| Qag (.int .i64 (((j-1:Nat):Int))) 189 rfl kj (Qam (u:=.int .i64 (IntKind.i64.wrap (((j:Nat):Int)-1))) kj (congrArg (Value.int .i64) (i64n _ _ (by omega) (by omega)))) <| sg 1 kj <| Qa7 ?_
       repeat (first | with_reducible refine goX1 ?_ | with_reducible refine goX2 ?_ | with_reducible refine goX3 ?_)
       exact QaI (j-1) ⟨kj,kj,kj,kj,kj,kj,kj,kj,kj,kj,kj,trivial⟩ ⟨(by omega),(QaJ r67_16 (Qol hj0 hj)),(QaE.puts q15 p16 (.inl (by simp))),x16⟩ (by show j-1<j; omega)
      ·skip
       have hj0:j=0:=by have:=of_decide_eq_false c84; omega
       have r67_15_86:V7.heap[g67]? = some (.cells (ints .u64 ([wv (rnds KK (w80 b) s i).a,wv (rnds KK (w80 b) s i).a,wv (rnds KK (w80 b) s i).b,wv (rnds KK (w80 b) s i).c,wv (rnds KK (w80 b) s i).d,wv (rnds KK (w80 b) s i).e,wv (rnds KK (w80 b) s i).f,wv (rnds KK (w80 b) s i).g])) 85):=QaJ q67_7 (by rw [hj0]; rfl)
       refine wp_exit <| hK80 _ _ <| sgC fun K87 hK87=>sg 1 kj <| Qag (.int .u64 (wv (rnds KK (w80 b) s i).d)) 197 rfl kj (Qak 46 _ g67 4 85 _ (.int .u64 (wv (rnds KK (w80 b) s i).d)) _ r67_15_86 rfl kj kj kj) <| sg 1 kj <| Qag (.int .u64 (wv (((rnds KK (w80 b) s i).d)+((((((((((rnds KK (w80 b) s i).h)+((((((rr ((rnds KK (w80 b) s i).e) 14))^^^((rr ((rnds KK (w80 b) s i).e) 18))))^^^((rr ((rnds KK (w80 b) s i).e) 41))))))+((((((rnds KK (w80 b) s i).e)&&&((rnds KK (w80 b) s i).f)))^^^((((~~~((rnds KK (w80 b) s i).e)))&&&((rnds KK (w80 b) s i).g)))))))+((wget KK i))))+((wget (w80 b) i))))))) 199 rfl kj (Qam kj (congrArg (Value.int .u64) (w_add _ _))) <| sg 1 kj <| Qai g67 _ (ints .u64 ([wv (rnds KK (w80 b) s i).a,wv (rnds KK (w80 b) s i).a,wv (rnds KK (w80 b) s i).b,wv (rnds KK (w80 b) s i).c,(wv (((rnds KK (w80 b) s i).d)+((((((((((rnds KK (w80 b) s i).h)+((((((rr ((rnds KK (w80 b) s i).e) 14))^^^((rr ((rnds KK (w80 b) s i).e) 18))))^^^((rr ((rnds KK (w80 b) s i).e) 41))))))+((((((rnds KK (w80 b) s i).e)&&&((rnds KK (w80 b) s i).f)))^^^((((~~~((rnds KK (w80 b) s i).e)))&&&((rnds KK (w80 b) s i).g)))))))+((wget KK i))))+((wget (w80 b) i)))))),wv (rnds KK (w80 b) s i).e,wv (rnds KK (w80 b) s i).f,wv (rnds KK (w80 b) s i).g])) 85 r67_15_86 rfl kj (Qaz 46 _ _ g67 4 85 _ _ r67_15_86 rfl kj kj kj (show 4<8 by decide)) fun W16 p16 r67_16=>?_
       have x16:=Puts.ext p16 xx7 b67
       refine sgN hK87 <| Qat <| sg 2 kj <| Qag (.int .u64 (wv (((((((((((rnds KK (w80 b) s i).h)+((((((rr ((rnds KK (w80 b) s i).e) 14))^^^((rr ((rnds KK (w80 b) s i).e) 18))))^^^((rr ((rnds KK (w80 b) s i).e) 41))))))+((((((rnds KK (w80 b) s i).e)&&&((rnds KK (w80 b) s i).f)))^^^((((~~~((rnds KK (w80 b) s i).e)))&&&((rnds KK (w80 b) s i).g)))))))+((wget KK i))))+((wget (w80 b) i))))+((((((((rr ((rnds KK (w80 b) s i).a) 28))^^^((rr ((rnds KK (w80 b) s i).a) 34))))^^^((rr ((rnds KK (w80 b) s i).a) 39))))+((((((((rnds KK (w80 b) s i).a)&&&((rnds KK (w80 b) s i).b)))^^^((((rnds KK (w80 b) s i).a)&&&((rnds KK (w80 b) s i).c)))))^^^((((rnds KK (w80 b) s i).b)&&&((rnds KK (w80 b) s i).c)))))))))) 203 rfl kj (Qam kj (congrArg (Value.int .u64) (w_add _ _))) <| sg 1 kj <| Qai g67 _ (ints .u64 ([(wv (((((((((((rnds KK (w80 b) s i).h)+((((((rr ((rnds KK (w80 b) s i).e) 14))^^^((rr ((rnds KK (w80 b) s i).e) 18))))^^^((rr ((rnds KK (w80 b) s i).e) 41))))))+((((((rnds KK (w80 b) s i).e)&&&((rnds KK (w80 b) s i).f)))^^^((((~~~((rnds KK (w80 b) s i).e)))&&&((rnds KK (w80 b) s i).g)))))))+((wget KK i))))+((wget (w80 b) i))))+((((((((rr ((rnds KK (w80 b) s i).a) 28))^^^((rr ((rnds KK (w80 b) s i).a) 34))))^^^((rr ((rnds KK (w80 b) s i).a) 39))))+((((((((rnds KK (w80 b) s i).a)&&&((rnds KK (w80 b) s i).b)))^^^((((rnds KK (w80 b) s i).a)&&&((rnds KK (w80 b) s i).c)))))^^^((((rnds KK (w80 b) s i).b)&&&((rnds KK (w80 b) s i).c))))))))),wv (rnds KK (w80 b) s i).a,wv (rnds KK (w80 b) s i).b,wv (rnds KK (w80 b) s i).c,(wv (((rnds KK (w80 b) s i).d)+((((((((((rnds KK (w80 b) s i).h)+((((((rr ((rnds KK (w80 b) s i).e) 14))^^^((rr ((rnds KK (w80 b) s i).e) 18))))^^^((rr ((rnds KK (w80 b) s i).e) 41))))))+((((((rnds KK (w80 b) s i).e)&&&((rnds KK (w80 b) s i).f)))^^^((((~~~((rnds KK (w80 b) s i).e)))&&&((rnds KK (w80 b) s i).g)))))))+((wget KK i))))+((wget (w80 b) i)))))),wv (rnds KK (w80 b) s i).e,wv (rnds KK (w80 b) s i).f,wv (rnds KK (w80 b) s i).g])) 85 r67_16 rfl kj (Qaz 46 _ _ g67 0 85 _ _ r67_16 rfl kj kj kj (show 0<8 by decide)) fun W17 p17 r67_17=>Qa7 <| hK77 _ _ <| Qat <| sg 1 kj ?_
       refine Qag (.int .i64 ((i+1:Nat):Int)) 119 rfl kj (Qam (u:=.int .i64 (IntKind.i64.wrap (((i:Nat):Int)+1))) kj (congrArg (Value.int .i64) (i64n _ _ (by omega) (by omega)))) <| sg 1 kj <| Qa7 ?_
       repeat (first | with_reducible refine goX1 ?_ | with_reducible refine goX2 ?_ | with_reducible refine goX3 ?_)
       exact QaI (i+1) ⟨kj,kj,kj,kj,kj,kj,kj,kj,trivial⟩ ⟨(by omega),(QaJ r67_17 (by rw [show rnds KK (w80 b) s (i+1)=rnd (wget KK i) (wget (w80 b) i) (rnds KK (w80 b) s i) from rfl]; generalize rnds KK (w80 b) s i=r; generalize wget KK i=kk; generalize wget (w80 b) i=ww; rfl)),(QaE.puts (QaE.puts (QaE.keeps (QaE.step (QaE.step q12 e13) e14) q15 (QfD (.inl (by simp)) QhD)) p16 (.inl (by simp))) p17 (.inl (by simp))),(Puts.ext p17 x16 b67)⟩ (by omega)
     ·skip
      have heq117:i=80:=by have:=of_decide_eq_false c76; omega
      have r67_12_88:V6.heap[g67]? = some (.cells (ints .u64 ([wv (rnds KK (w80 b) s 80).a,wv (rnds KK (w80 b) s 80).b,wv (rnds KK (w80 b) s 80).c,wv (rnds KK (w80 b) s 80).d,wv (rnds KK (w80 b) s 80).e,wv (rnds KK (w80 b) s 80).f,wv (rnds KK (w80 b) s 80).g,wv (rnds KK (w80 b) s 80).h])) 85):=QaJ q67_6 (by rw [heq117])
      refine wp_exit <| hK68 _ _ <| sgB kj <| wp_block ?_
      have n15_4:g67≠g4:=(Qas r4_9 l67)
      obtain ⟨r,hr9⟩:∃ z,z=rnds KK (w80 b) s 80:=⟨_,rfl⟩
      have r67_12_90:V6.heap[g67]? = some (.cells (ints .u64 (r.l.map wv)) 85):=QaJ r67_12_88 (by rw [hr9]; rfl)
      refine QaN (fun (s8:Nat)=>[(2,.pointer (some ⟨g2,0,none⟩)),(3,.pointer (some ⟨g4,0,none⟩)),(6,.slice (some ⟨gd17,0,none⟩) 80 80),(7,.slice am20 ((padT t).length) cm20),(8,.int .i64 ((128*m:Nat):Int)),(9,.slice a9 ((((w80 b).map wv).take 80).length) c9),(16,.pointer (some ⟨g67,0,none⟩)),(21,.int .i64 ((s8:Nat):Int))]) (fun (s8:Nat) W=>(s8≤8)∧(W.heap[g4]? = some (.cells (ints .u64 ((mixW s.l r.l s8).map wv)) 85))∧(QaE [g4] V6 W)∧(Ext w W)) (fun (s8:Nat)=>8-s8) 0 ⟨kj,kj,kj,kj,kj,kj,kj,kj,trivial⟩ ⟨(Nat.zero_le _),(QaJ (QaE.row q12 (Puts.row p11 (Qaa r4_9 e10) (Qab r4_9 l67)) (Qb4 (Qab r4_9 l67) Qcl)) (show _=(mixW s.l r.l 0).map wv from rfl)),(QaE.refl [g4] V6),xx6⟩ fun s8 X8 V8 hI8=>?_
      obtain ⟨i,hs8⟩:∃ z,z=s8:=⟨_,rfl⟩
      subst hs8
      obtain ⟨hi,q4_8,kk8,xx8⟩:=hI8
      replace hi:i≤8:=hi
      replace q4_8:V8.heap[g4]? = some (.cells (ints .u64 ((mixW s.l r.l i).map wv)) 85):=q4_8
      replace kk8:QaE [g4] V6 V8:=kk8
      replace xx8:Ext w V8:=xx8
      have q13:=kk8
      refine wp_seq_k fun K91 hK91=>sgB kj <| QaD (t:=decide (((i:Nat):Int)<8)) kj (fun c93=>?_) (fun c93=>?_)
      ·skip
       have hlt206:i<8:=by have:=of_decide_eq_true c93; omega
       refine wp_skip <| hK91 _ _ <| wp_seq_k fun K94 hK94=>wp_block <| Qbk 8 [⟨none,[(21,none)]⟩,⟨none,[(21,none)]⟩,⟨none,[(3,none),(210,some 1)]⟩,⟨none,[(211,some 2)]⟩,⟨none,[(21,none)]⟩,⟨none,[(16,none),(213,some 4)]⟩,⟨none,[(214,some 5)]⟩,⟨none,[(212,some 3),(215,some 6)]⟩] kj kj fun F hF=>QaK (Qau _) (.int .i64 ((i:Nat):Int)) kj kj (fun W=>kj) <| QaK (Qau _) (.int .i64 ((i:Nat):Int)) kj kj (fun W=>kj) <| QaK (Qau _) (.pointer (some ⟨g4,i,none⟩)) kj kj (fun W=>(QaR _ _ _ .i64 (i) _ 8 46 rfl kj kj kj kj (by omega))) <| Qb1 (Qau _) (.int .u64 (wv (wget s.l i))) kj kj (fun W hR=>(Qak 46 _ g4 i 85 _ (.int .u64 (wv (wget s.l i))) _ (Qaa (Qaa q4_8 (Qae _)) hR) rfl kj ((Qar _ _ _ (Nat.lt_of_lt_of_eq (by omega) (mix_len s r hi).symm)).trans (congrArg (fun z=>some (Value.int .u64 z)) (Qlj s r hlt206))) kj)) <| QaK (Qau _) (.int .i64 ((i:Nat):Int)) kj kj (fun W=>kj) ?_
       refine QaK (Qau _) (.pointer (some ⟨g67,i,none⟩)) kj kj (fun W=>(QaR _ _ _ .i64 (i) _ 8 46 rfl kj kj kj kj (by omega))) ?_
       have r67_13:=(QaE.row q13 r67_12_90 (Qb4 n15_4 Qcl))
       refine Qb1 (Qau _) (.int .u64 (wv (wget r.l i))) kj kj (fun W hR=>(Qak 46 _ g67 i 85 _ (.int .u64 (wv (wget r.l i))) _ (Qaa (Qaa r67_13 (Qae _)) hR) rfl kj ((Qar _ _ _ (Nat.lt_of_lt_of_eq (by omega) (show (r.l.map wv).length=8 from rfl).symm)).trans (congrArg (fun z=>some (Value.int .u64 z)) (nth_map _ _))) kj)) <| QaK (Qau _) (.int .u64 (wv (((wget s.l i))+((wget r.l i))))) kj kj (fun W=>(Qam kj (congrArg (Value.int .u64) (w_add _ _)))) <| QdL (hF _ fun W14 e14=>?_)
       simp only [List.nil_append,List.cons_append,List.take_succ_cons,List.take_zero,List.drop_succ_cons,List.drop_zero,finE,up]
       clear hF
       have x14:=Ext.tr xx8 e14
       refine Qag (.pointer (some ⟨g4,i,none⟩)) 217 rfl kj (QaR _ _ _ .i64 (i) _ 8 46 rfl kj kj kj kj (by omega)) ?_
       have r4_14:=(Qaa q4_8 e14)
       refine Qai g4 _ (ints .u64 (((mixW s.l r.l i).map wv).set i (wv (((wget s.l i))+((wget r.l i)))))) 85 r4_14 rfl kj (Qaz 46 _ _ g4 i 85 _ _ r4_14 rfl kj kj kj (Nat.lt_of_lt_of_eq (by omega) (mix_len s r hi).symm)) fun W15 p15 r4_15=>Qa7 <| hK94 _ _ <| Qat <| sg 1 kj <| Qag (.int .i64 ((i+1:Nat):Int)) 208 rfl kj (Qam (u:=.int .i64 (IntKind.i64.wrap (((i:Nat):Int)+1))) kj (congrArg (Value.int .i64) (i64n _ _ (by omega) (by omega)))) <| sg 1 kj <| Qa7 ?_
       repeat (first | with_reducible refine goX1 ?_ | with_reducible refine goX2 ?_ | with_reducible refine goX3 ?_)
       exact QaI (i+1) ⟨kj,kj,kj,kj,kj,kj,kj,kj,trivial⟩ ⟨(by omega),(QaJ r4_15 (mix_set s r hlt206)),(QaE.puts (QaE.step q13 e14) p15 (.inl (by simp))),(Puts.ext p15 x14 b4)⟩ (by show 8-(i+1)<8-i; omega)
      ·skip
       have heq206:i=8:=by have:=of_decide_eq_false c93; omega
       refine wp_exit <| hK27 _ _ <| Qat <| sg 1 kj <| Qag (.int .i64 (((128*m)+128:Nat):Int)) 43 rfl kj (Qam (u:=.int .i64 (IntKind.i64.wrap (((128*m:Nat):Int)+128))) kj (congrArg (Value.int .i64) (i64n _ _ (by omega) (by omega)))) <| sg 1 kj <| Qa7 ?_
       repeat (first | with_reducible refine goX1 ?_ | with_reducible refine goX2 ?_ | with_reducible refine goX3 ?_)
       exact QaI (m+1) ⟨kj,kj,kj,kj,kj,trivial⟩ ⟨(by omega),(QaJ q4_8 (by rw [heq206]; subst hr9; subst hs; subst hb; rfl)),(QaE.keeps (QaE.keeps (QaE.puts (QaE.step (QaE.low (QaE.step q7 e8) l9 (qT (QaE.size q7) (qR _))) e10) p11 (.inr (qT (QaE.size q7) (qT (qT (qT (qR _) e8.size) l9.size) l67)))) q12 (QfD (.inr (qT (QaE.size q7) (qT (qT (qT (qR _) e8.size) l9.size) l67))) QhD)) q13 (QfD (.inl (by simp)) QhD)),xx8⟩ (by omega)
  ·skip
   have heq41:m=q:=by have:=of_decide_eq_false c25; omega
   have r4_7_95:V2.heap[g4]? = some (.cells (ints .u64 ([wv (absorb S0 (padT t) q).a,wv (absorb S0 (padT t) q).b,wv (absorb S0 (padT t) q).c,wv (absorb S0 (padT t) q).d,wv (absorb S0 (padT t) q).e,wv (absorb S0 (padT t) q).f,wv (absorb S0 (padT t) q).g,wv (absorb S0 (padT t) q).h])) 85):=QaJ q4_2 (by rw [heq41])
   refine wp_exit <| hK21 _ _ <| sgC fun K96 hK96=>Qah (ints .u8 (List.replicate 64 0)) 30 22 rfl kj kj fun g97 W8 l97 e8 r97_8=>sgN hK96 <| wp_seq_k fun K98 hK98=>sgB kj <| wp_block ?_
   obtain ⟨sQ,hsQ⟩:∃ z,z=absorb S0 (padT t) q:=⟨_,rfl⟩
   have r4_8:=(Qaa r4_7_95 e8)
   have r4_8_100:W8.heap[g4]? = some (.cells (ints .u64 (sQ.l.map wv)) 85):=QaJ r4_8 (by rw [hsQ]; rfl)
   refine QaN (fun (s9:Nat)=>[(2,.pointer (some ⟨g2,0,none⟩)),(3,.pointer (some ⟨g4,0,none⟩)),(22,.pointer (some ⟨g97,0,none⟩)),(23,.int .i64 ((s9:Nat):Int))]) (fun (s9:Nat) W=>(s9≤64)∧(W.heap[g97]? = some (.cells (ints .u8 (fill sQ.out 64 s9)) 30))∧(QaE [g97] W8 W)∧(Ext w W)) (fun (s9:Nat)=>64-s9) 0 ⟨kj,kj,kj,kj,trivial⟩ ⟨(Nat.zero_le _),(QaJ r97_8 (fill_zero sQ.out 64).symm),(QaE.refl [g97] W8),(Ext.tr xx2 e8)⟩ fun s9 X9 V9 hI9=>?_
   obtain ⟨i,hs9⟩:∃ z,z=s9:=⟨_,rfl⟩
   subst hs9
   obtain ⟨hi,q97_9,kk9,xx9⟩:=hI9
   replace hi:i≤64:=hi
   replace q97_9:V9.heap[g97]? = some (.cells (ints .u8 (fill sQ.out 64 i)) 30):=q97_9
   replace kk9:QaE [g97] W8 V9:=kk9
   replace xx9:Ext w V9:=xx9
   have q9:=kk9
   refine wp_seq_k fun K101 hK101=>sgB kj <| QaD (t:=decide (((i:Nat):Int)<64)) kj (fun c103=>?_) (fun c103=>?_)
   ·skip
    have hlt219:i<64:=by have:=of_decide_eq_true c103; omega
    refine wp_skip <| hK101 _ _ <| wp_seq_k fun K104 hK104=>wp_block <| Qat <| sg 2 kj <| Qag (.int .i64 ((i/8:Nat):Int)) 224 rfl kj (Qam (u:=.int .i64 (IntKind.i64.wrap (Int.tdiv (((i:Nat):Int)) (8)))) kj (congrArg (Value.int .i64) (QeU _ 8 (by omega)))) <| Qag (.pointer (some ⟨g4,i/8,none⟩)) 225 rfl kj (QaR _ _ _ .i64 (i/8) _ 8 46 rfl kj kj kj kj (by omega)) ?_
    have r4_9:=(QaE.row q9 r4_8_100 (Qb4 (Qab r4_7_95 l97) Qcl))
    refine Qag (.int .u64 (wv (wget sQ.l (i/8)))) 226 rfl kj (Qak 46 _ g4 (i/8) 85 _ (.int .u64 (wv (wget sQ.l (i/8)))) _ r4_9 rfl kj ((Qar _ _ _ (Nat.lt_of_lt_of_eq (by omega) (show (sQ.l.map wv).length=8 from rfl).symm)).trans (congrArg (fun z=>some (Value.int .u64 z)) (nth_map _ _))) kj) <| sg 1 kj <| Qag (.int .i64 ((i%8:Nat):Int)) 228 rfl kj (Qam (u:=.int .i64 (Int.tmod (((i:Nat):Int)) (8))) kj (congrArg (Value.int .i64) (Qdc _ 8))) <| Qag (.int .i64 ((8*(i%8):Nat):Int)) 229 rfl kj (Qam (u:=.int .i64 (IntKind.i64.wrap (8*((i%8:Nat):Int)))) kj (congrArg (Value.int .i64) (i64n _ _ (by omega) (by omega)))) <| Qag (.int .i64 (((56-8*(i%8):Nat):Int))) 230 rfl kj (Qam (u:=.int .i64 (IntKind.i64.wrap (56-((8*(i%8):Nat):Int)))) kj (congrArg (Value.int .i64) (i64n _ _ (by omega) (by omega)))) <| Qag (.int .u64 (((56-8*(i%8):Nat):Int))) 231 rfl kj (Qam (u:=.int .u64 (IntKind.u64.wrap (((56-8*(i%8):Nat):Int)))) kj (congrArg (Value.int .u64) (by rw [show ∀ z:Int,IntKind.u64.wrap z=z%2^64 from fun _=>rfl]; omega))) ?_
    refine Qag (.int .u64 (wv (wget sQ.l (i/8)>>>(56-8*(i%8))))) 232 rfl kj (Qby .shr _ _ _ _ .u64 .u64 _ _ _ rfl kj kj (Qdo _ _ _ _ _ _ (by omega) (w_shr _ _ (56-8*(i%8)) rfl (by omega)))) <| Qag (.int .u8 (nth sQ.out i)) 233 rfl kj (Qam (u:=.int .u8 (IntKind.u8.wrap (wv (wget sQ.l (i/8)>>>(56-8*(i%8)))))) kj (congrArg (Value.int .u8) (by have h9:=Qjf sQ (a:=i/8) (b:=i%8) (by omega) (by omega); rwa [show 8*(i/8)+i%8=i by omega] at h9))) ?_
    refine Qag (.pointer (some ⟨g97,i,none⟩)) 234 rfl kj (QaR _ _ _ .i64 (i) _ 64 5 rfl kj kj kj kj (by omega)) <| Qai g97 _ (ints .u8 ((fill sQ.out 64 i).set i (nth sQ.out i))) 30 q97_9 rfl kj (Qaz 5 _ _ g97 i 30 _ _ q97_9 rfl kj kj kj (Nat.lt_of_lt_of_eq (by omega) (fill_len (show sQ.out.length=64 from rfl) hi).symm)) fun W10 p10 r97_10=>?_
    have x10:=Puts.ext p10 xx9 (qT xx2.size l97)
    refine Qa7 <| hK104 _ _ <| Qat <| sg 1 kj <| Qag (.int .i64 ((i+1:Nat):Int)) 221 rfl kj (Qam (u:=.int .i64 (IntKind.i64.wrap (((i:Nat):Int)+1))) kj (congrArg (Value.int .i64) (i64n _ _ (by omega) (by omega)))) <| sg 1 kj <| Qa7 ?_
    repeat (first | with_reducible refine goX1 ?_ | with_reducible refine goX2 ?_ | with_reducible refine goX3 ?_)
    exact QaI (i+1) ⟨kj,kj,kj,kj,trivial⟩ ⟨(by omega),(QaJ r97_10 (fill_set (show sQ.out.length=64 from rfl) hlt219)),(QaE.puts q9 p10 (.inl (by simp))),x10⟩ (by show 64-(i+1)<64-i; omega)
   ·skip
    have heq219:i=64:=by have:=of_decide_eq_false c103; omega
    have r97_9_105:V9.heap[g97]? = some (.cells (ints .u8 (sQ.out)) 30):=QaJ q97_9 (by rw [heq219]; exact fill_full (show sQ.out.length=64 from rfl))
    refine wp_exit <| hK98 _ _ <| sgC fun K106 hK106=>Qag (.agg (ints .u8 (sQ.out))) 235 rfl kj (Qac 30 _ g97 30 _ _ r97_9_105 rfl kj kj (isz (n:=64) kj ((Qad _ _).trans (show sQ.out.length=64 from rfl)))) ?_
    have r2_7:=(QaE.row q7 (Qaa (Qaa (QaE.row q4 (Qaa (Qaa r2_1 e2) e3) (Qb4 (Qab r2_1 l4) Qcl)) e5) e6) (Qb4 (Qab r2_1 l4) Qcl))
    have r2_9:=(QaE.row q9 (Qaa r2_7 e8) (Qb4 (Qab r2_7 l97) Qcl))
    refine Qai g2 _ (ints .u8 (sQ.out)) 30 r2_9 rfl kj (Qaf 30 _ _ g2 30 _ _ r2_9 rfl kj kj (isz (n:=64) kj ((Qad _ _).trans (show sQ.out.length=64 from rfl))) (eqsz (n:=64) ((Qad _ _).trans (qZ (n:=64))) ((Qad _ _).trans (show sQ.out.length=64 from rfl))) (ints_one _ _)) fun W10 p10 r2_10=>?_
    have x10:=Puts.ext p10 xx9 (qT (Rely.Ext.refl w).size l2)
    refine sgN hK106 <| wp_ret ?_
    repeat (first | with_reducible refine goR1 ?_ | with_reducible refine goR2 ?_)
    exact (show bodyPost _ _ _ .ret _ _ from ret1 (.agg (ints .u8 (sQ.out))) rfl (Qa8 g2 30 _ r2_10 kj kj (isz (n:=64) kj ((Qad _ _).trans (show sQ.out.length=64 from rfl)))) ⟨by rw [show dig t=sQ.out by unfold dig; rw [hq,Nat.mul_div_cancel_left _ (by decide),hsQ]],x10⟩)
end Go.Proofs.YtdoadngmgmdlbaaDoor.Sha5
end
section
namespace Go.Proofs.YtdoadngmgmdlbaaDoor.Sha5
open Go Go.RowKit
open Rely Auto Own
theorem Qbl {ds : List Int} (h:ds.length=64):(ds.take 32).length=32:=by rw [List.length_take,h]; rfl
theorem Qbf {ds : List Int} (h:ds.length=64):(ds.drop 32).length=32:=by rw [List.length_drop,h]
theorem Qqz {ds : List Int} {i:Nat} (h:i<32):nth ds i=nth (ds.take 32) i:=by
  unfold nth
  rw [List.getD_eq_getElem?_getD,List.getD_eq_getElem?_getD,List.getElem?_take,if_pos h]
theorem Qq0 (ds : List Int) (i:Nat):nth ds (32+i)=nth (ds.drop 32) i:=by
  unfold nth
  rw [List.getD_eq_getElem?_getD,List.getD_eq_getElem?_getD,List.getElem?_drop]
theorem QgZ (ds : List Int) (hd:ds.length=64) (w:World):Calls Tryd.prog 23 #[.agg (ints .u8 ds)] w (Ret w (.tuple #[.agg (ints .u8 (ds.take 32)),.agg (ints .u8 (ds.drop 32))])):=by
 refine enter 24 [(0,.agg (ints .u8 (ds)))] Tryd.func23 rfl rfl kj rfl <| sgC fun K1 hK1=>Qah (ints .u8 (ds)) 30 1 rfl kj kj fun g2 W1 l2 e1 r2_1=>?_
 have x1:=Ext.tr (Rely.Ext.refl w) e1
 have b2:=qT (Rely.Ext.refl w).size l2
 refine Qah (ints .u8 (List.replicate 32 0)) 23 2 rfl kj kj fun g3 W2 l3 e2 r3_2=>?_
 have x2:=Ext.tr x1 e2
 refine Qah (ints .u8 (List.replicate 32 0)) 23 3 rfl kj kj fun g4 W3 l4 e3 r4_3=>?_
 have x3:=Ext.tr x2 e3
 refine sgN hK1 <| sgC fun K5 hK5=>Qah (ints .u8 (List.replicate 32 0)) 23 4 rfl kj kj fun g6 W4 l6 e4 r6_4=>?_
 have x4:=Ext.tr x3 e4
 refine sgN hK5 <| sgC fun K7 hK7=>Qah (ints .u8 (List.replicate 32 0)) 23 5 rfl kj kj fun g8 W5 l8 e5 r8_5=>sgN hK7 <| wp_seq_k fun K9 hK9=>sgB kj <| wp_block ?_
 have nx54:g8≠g6:=(Qas r6_4 l8)
 refine QaN (fun (s1:Nat)=>[(1,.pointer (some ⟨g2,0,none⟩)),(2,.pointer (some ⟨g3,0,none⟩)),(3,.pointer (some ⟨g4,0,none⟩)),(4,.pointer (some ⟨g6,0,none⟩)),(5,.pointer (some ⟨g8,0,none⟩)),(6,.int .i64 ((s1:Nat):Int))]) (fun (s1:Nat) W=>(s1≤32)∧(W.heap[g6]? = some (.cells (ints .u8 (fill (ds.take 32) 32 s1)) 23))∧(W.heap[g8]? = some (.cells (ints .u8 (fill (ds.drop 32) 32 s1)) 23))∧(QaE [g6,g8] W5 W)∧(Ext w W)) (fun (s1:Nat)=>32-s1) 0 ⟨kj,kj,kj,kj,kj,kj,trivial⟩ ⟨(Nat.zero_le _),(QaJ (Qaa r6_4 e5) (fill_zero (ds.take 32) 32).symm),(QaJ r8_5 (fill_zero (ds.drop 32) 32).symm),(QaE.refl [g6,g8] W5),(Ext.tr x4 e5)⟩ fun s1 X1 V1 hI1=>?_
 obtain ⟨i,hs1⟩:∃ z,z=s1:=⟨_,rfl⟩
 subst hs1
 obtain ⟨hi,q6_1,q8_1,kk1,xx1⟩:=hI1
 replace hi:i≤32:=hi
 replace q6_1:V1.heap[g6]? = some (.cells (ints .u8 (fill (ds.take 32) 32 i)) 23):=q6_1
 replace q8_1:V1.heap[g8]? = some (.cells (ints .u8 (fill (ds.drop 32) 32 i)) 23):=q8_1
 replace kk1:QaE [g6,g8] W5 V1:=kk1
 replace xx1:Ext w V1:=xx1
 have q6:=kk1
 refine wp_seq_k fun K11 hK11=>sgB kj <| QaD (t:=decide (((i:Nat):Int)<32)) kj (fun c13=>?_) (fun c13=>?_)
 ·skip
  have hlt8:i<32:=by have:=of_decide_eq_true c13; omega
  refine wp_skip <| hK11 _ _ <| wp_seq_k fun K14 hK14=>wp_block <| sgC fun K15 hK15=>sg 2 kj <| Qag (.pointer (some ⟨g2,i,none⟩)) 13 rfl kj (QaR _ _ _ .i64 (i) _ 64 5 rfl kj kj kj kj (by omega)) ?_
  have r2_3:=(Qaa (Qaa r2_1 e2) e3)
  have r2_4:=(Qaa r2_3 e4)
  have r2_6:=(QaE.row q6 (Qaa r2_4 e5) (Qb4 (Qab r2_3 l6) (Qb4 (Qab r2_4 l8) Qcl)))
  refine Qag (.int .u8 (nth (ds.take 32) i)) 14 rfl kj (Qak 5 _ g2 i 30 _ (.int .u8 (nth (ds.take 32) i)) _ r2_6 rfl kj ((Qar _ _ _ (Nat.lt_of_lt_of_eq (by omega) hd.symm)).trans (congrArg (fun z=>some (Value.int .u8 z)) (Qqz hlt8))) kj) <| Qag (.pointer (some ⟨g6,i,none⟩)) 15 rfl kj (QaR _ _ _ .i64 (i) _ 32 5 rfl kj kj kj kj (by omega)) <| Qai g6 _ (ints .u8 ((fill (ds.take 32) 32 i).set i (nth (ds.take 32) i))) 23 q6_1 rfl kj (Qaz 5 _ _ g6 i 23 _ _ q6_1 rfl kj kj kj (Nat.lt_of_lt_of_eq (by omega) (fill_len (Qbl hd) hi).symm)) fun W7 p7 r6_7=>?_
  have x7:=Puts.ext p7 xx1 (qT x3.size l6)
  refine sgN hK15 <| Qat <| sg 2 kj <| Qag (.int .i64 ((32+i:Nat):Int)) 18 rfl kj (Qam (u:=.int .i64 (IntKind.i64.wrap (32+((i:Nat):Int)))) kj (congrArg (Value.int .i64) (i64n _ _ (by omega) (by omega)))) <| Qag (.pointer (some ⟨g2,32+i,none⟩)) 19 rfl kj (QaR _ _ _ .i64 (32+i) _ 64 5 rfl kj kj kj kj (by omega)) <| Qag (.int .u8 (nth (ds.drop 32) i)) 20 rfl kj (Qak 5 _ g2 (32+i) 30 _ (.int .u8 (nth (ds.drop 32) i)) _ (Puts.row p7 r2_6 (Qab r2_3 l6)) rfl kj ((Qar _ _ _ (Nat.lt_of_lt_of_eq (by omega) hd.symm)).trans (congrArg (fun z=>some (Value.int .u8 z)) (Qq0 ds i))) kj) <| Qag (.pointer (some ⟨g8,i,none⟩)) 21 rfl kj (QaR _ _ _ .i64 (i) _ 32 5 rfl kj kj kj kj (by omega)) ?_
  have r8_7:=(Puts.row p7 q8_1 nx54)
  refine Qai g8 _ (ints .u8 ((fill (ds.drop 32) 32 i).set i (nth (ds.drop 32) i))) 23 r8_7 rfl kj (Qaz 5 _ _ g8 i 23 _ _ r8_7 rfl kj kj kj (Nat.lt_of_lt_of_eq (by omega) (fill_len (Qbf hd) hi).symm)) fun W8 p8 r8_8=>?_
  have x8:=Puts.ext p8 x7 (qT x4.size l8)
  refine Qa7 <| hK14 _ _ <| Qat <| sg 1 kj <| Qag (.int .i64 ((i+1:Nat):Int)) 10 rfl kj (Qam (u:=.int .i64 (IntKind.i64.wrap (((i:Nat):Int)+1))) kj (congrArg (Value.int .i64) (i64n _ _ (by omega) (by omega)))) <| sg 1 kj <| Qa7 ?_
  repeat (first | with_reducible refine goX1 ?_ | with_reducible refine goX2 ?_ | with_reducible refine goX3 ?_)
  exact QaI (i+1) ⟨kj,kj,kj,kj,kj,kj,trivial⟩ ⟨(by omega),(QaJ (Puts.row p8 r6_7 (Ne.symm nx54)) (fill_set (Qbl hd) hlt8)),(QaJ r8_8 (fill_set (Qbf hd) hlt8)),(QaE.puts (QaE.puts q6 p7 (.inl (by simp))) p8 (.inl (by simp))),x8⟩ (by show 32-(i+1)<32-i; omega)
 ·skip
  have heq8:i=32:=by have:=of_decide_eq_false c13; omega
  have r6_6_16:V1.heap[g6]? = some (.cells (ints .u8 (ds.take 32)) 23):=QaJ q6_1 (by rw [heq8]; exact fill_full (Qbl hd))
  have r8_6_17:V1.heap[g8]? = some (.cells (ints .u8 (ds.drop 32)) 23):=QaJ q8_1 (by rw [heq8]; exact fill_full (Qbf hd))
  refine wp_exit <| hK9 _ _ <| wp_seq_k fun K18 hK18=>QaL (fun W=>W.heap[g8]? = some (.cells (ints .u8 (ds.drop 32)) 23)) [⟨none,[(4,none)]⟩,⟨none,[(5,none)]⟩,⟨none,[(2,none),(22,some 0)]⟩,⟨none,[(3,none),(23,some 1)]⟩] [] [1] kj kj kj (fun W hR=>Qaa r8_6_17 hR) fun F hF=>QaO (.agg (ints .u8 (ds.take 32))) kj kj kj rfl (fun W hR=>(Qac 23 _ g6 23 _ _ (Qaa (Qaa r6_6_16 (Qae _)) hR) rfl kj kj (isz (n:=32) kj ((Qad _ _).trans (Qbl hd))))) <| Qoh (.agg (ints .u8 (ds.drop 32))) kj kj kj rfl (fun W hW=>(Qac 23 _ g8 23 _ _ hW rfl kj kj (isz (n:=32) kj ((Qad _ _).trans (Qbf hd))))) <| Qbt rfl <| Qbt rfl <| QcA (hF _ kj fun W7 e7=>?_)
  simp only [List.nil_append,List.cons_append,fins,up]
  clear hF
  have x7:=Ext.tr xx1 e7
  have r3_3:=(Qaa r3_2 e3)
  have r3_4:=(Qaa r3_3 e4)
  have r3_7:=(Qaa (QaE.row q6 (Qaa r3_4 e5) (Qb4 (Qab r3_3 l6) (Qb4 (Qab r3_4 l8) Qcl))) e7)
  have r8_7:=(Qaa r8_6_17 e7)
  refine Qbd _ g3 _ (ints .u8 (ds.take 32)) 23 r3_7 rfl (Qaf 23 _ _ g3 23 _ _ r3_7 rfl kj kj (isz (n:=32) kj ((Qad _ _).trans (Qbl hd))) (eqsz (n:=32) ((Qad _ _).trans (qZ (n:=32))) ((Qad _ _).trans (Qbl hd))) (ints_one _ _)) (fun W hp=>Puts.row hp r8_7 (Qas r3_4 l8)) fun W8 p8 r3_8=>?_
  have x8:=Puts.ext p8 x7 (qT x1.size l3)
  have r4_4:=(Qaa r4_3 e4)
  have r4_8:=(Puts.row p8 (Qaa (QaE.row q6 (Qaa r4_4 e5) (Qb4 (Qab r4_3 l6) (Qb4 (Qab r4_4 l8) Qcl))) e7) (Qas r3_2 l4))
  have r8_8:=(Puts.row p8 r8_7 (Qas r3_4 l8))
  refine Qbd _ g4 _ (ints .u8 (ds.drop 32)) 23 r4_8 rfl (Qaf 23 _ _ g4 23 _ _ r4_8 rfl kj kj (isz (n:=32) kj ((Qad _ _).trans (Qbf hd))) (eqsz (n:=32) ((Qad _ _).trans (qZ (n:=32))) ((Qad _ _).trans (Qbf hd))) (ints_one _ _)) (fun W hp=>Puts.row hp r8_8 (Qas r4_4 l8)) fun W9 p9 r4_9=>QbI <| hK18 _ _ <| wp_ret ?_
  repeat (first | with_reducible refine goR1 ?_ | with_reducible refine goR2 ?_)
  exact (show bodyPost _ _ _ .ret _ _ from ret2 (.agg (ints .u8 (ds.take 32))) (.agg (ints .u8 (ds.drop 32))) rfl (Qa8 g3 23 _ (Puts.row p9 r3_8 (Qab r3_2 l4)) kj kj (isz (n:=32) kj ((Qad _ _).trans (Qbl hd)))) (Qa8 g4 23 _ r4_9 kj kj (isz (n:=32) kj ((Qad _ _).trans (Qbf hd)))) ⟨rfl,(Puts.ext p9 x8 (qT x2.size l4))⟩)
end Go.Proofs.YtdoadngmgmdlbaaDoor.Sha5
end
section
namespace Go.Proofs.YtdoadngmgmdlbaaDoor.Ladder
open Go Go.RowKit
open Rely
def clamp (xs : List Int):List Int:=(xs.set 0 (nth xs 0/8*8)).set 31 (nth xs 31%64+64)
theorem QqP : ∀ a:Fin 256,bits .and .u8 (a.val:Int) 248=(a.val:Int)/8*8:=by decide +kernel
theorem Qrk : ∀ a:Fin 256,bits .or .u8 (bits .and .u8 (a.val:Int) 127) 64=(a.val:Int)%64+64:=by decide +kernel
theorem Qp9 (a : Int) (h:0≤a∧a≤255):bits .and .u8 a 248=a/8*8:=by
  have:=QqP ⟨a.toNat,by omega⟩
  simpa [Int.toNat_of_nonneg h.1] using this
theorem Qqu (a : Int) (h:0≤a∧a≤255):bits .or .u8 (bits .and .u8 a 127) 64=a%64+64:=by
  have:=Qrk ⟨a.toNat,by omega⟩
  simpa [Int.toNat_of_nonneg h.1] using this
theorem infoKey : (Tryd.prog.info? 23).map (·.size)=some 32:=kj
theorem Qg3 (w : World) (a b:Obj):((w.alloc a).alloc b).heap[w.heap.size]? = some a:=by
  rw [Below.heap_alloc _ _ _ (by simp)]
  exact heap_alloc_new w a
theorem Qea (w : World) (a b:Obj):((w.alloc a).alloc b).heap[w.heap.size+1]? = some b:=by
  have:=heap_alloc_new (w.alloc a) b
  simpa using this
theorem ints_one (k : IntKind) (xs:List Int):(ints k xs).all (·.oneCell')=true:=by simp [ints,Value.oneCell']
theorem below_setRow {B : Nat} {a w:World} (h:Below B a w) {g:Nat} (hp:B≤g) (cs:Array Value):Below B a (w.setRow g cs) :=
  ⟨h.os,h.tape,h.output,by simpa using h.size,fun k hk=>(setRow_other w g k cs (by omega)).trans (h.block k hk)⟩
theorem nth_set_ne (l : List Int) (i j:Nat) (v:Int) (h:i≠j):nth (l.set i v) j=nth l j:=by simp [nth,h]
theorem clampC (xs : List Int) (hl:xs.length=32) (hb:Qaj xs) (w:World) :
    Calls Tryd.prog 42 #[.agg (ints .u8 xs)] w (Ret w (.agg (ints .u8 (clamp xs)))):=by
  have a0:=Qp9 _ (hb.nth 0)
  have a31:=Qqu _ (hb.nth 31)
  have e0:(ints .u8 xs)[0]? = some (.int .u8 (nth xs 0)):=Qar _ _ _ (by omega)
  have hi:∀ (ys:List Int),ys.length=32→(Tryd.prog.info? 23).map (·.size)=some (ints .u8 ys).size:=fun ys h=>by rw [infoKey,Qad,h]
  have hset:∀ (ys:List Int) (i:Nat) (v:Int),(ints .u8 ys).setIfInBounds i (.int .u8 v)=ints .u8 (ys.set i v):=fun ys i v=>Qbx _ _ _ _
  have e31:(ints .u8 (xs.set 0 (nth xs 0/8*8)))[31]? = some (.int .u8 (nth xs 31)):=by rw [Qar _ _ _ (by simp; omega),nth_set_ne _ _ _ _ (by decide)]
  have HE0:=Lib.hid e0
  go_enter Tryd.func42,Tryd.ntmps42
  go_wp2_with first
    | (with_reducible show wpList _ _ _ ((⟨_,.load 23 _,_,_,_,_⟩:Oper)::_) _ _
       refine wpList_load_row rfl 23 _ rfl w.heap.size rfl 23 (ints .u8 (clamp xs)) (0,0) _ (Qg3 _ _ _) Tryd.underlying23 rfl (hi _ (by simp [clamp,hl])) ?_)
    | (with_reducible show wpList _ _ _ ((⟨_,.store 23 _ _,_,_,_,_⟩:Oper)::_) _ _
       refine wpList_store_row rfl 23 _ _ rfl (w.heap.size+1) (ints .u8 (clamp xs)) rfl rfl 23 _ (Qea _ _ _) (hi _ (by simp [clamp,hl])) (by simp [ints,clamp,hl]) (ints_one _ _) ?_)
  refine bodyPost_ret (v:=.agg (ints .u8 (clamp xs))) (results_cell_row (p:=2) rfl _ _ (w.heap.size+1) 23 (ints .u8 (clamp xs)) (0,0) _ rfl (setRow_heap _ _ _ _ _ _ (Qea _ _ _)) Tryd.underlying23 rfl (hi _ (by simp [clamp,hl]))) rfl ⟨rfl,?_⟩
  exact below_setRow (((Below.refl _ _).alloc (qR _) _).alloc (by simp) _) (by omega) _
theorem wrap_u8 (a : Int) (h:0≤a) (h2:a<256):IntKind.u8.wrap a=a:=by
  have e:IntKind.u8.bits=8:=rfl
  have f:IntKind.u8.signed=false:=rfl
  simp [IntKind.wrap,e,f]
  omega
theorem refClampC (xs : List Int) (hl:xs.length=32) (hb:Qaj xs) (w:World) :
    Calls Tryd.prog 28 #[.agg (ints .u8 xs)] w (Ret w (.agg (ints .u8 (clamp xs)))):=by
  have c0:=hb.nth 0
  have c31:=hb.nth 31
  have a0:IntKind.u8.wrap (nth xs 0/8*8)=nth xs 0/8*8:=wrap_u8 _ (by omega) (by omega)
  have a31:IntKind.u8.wrap (nth xs 31%64+64)=nth xs 31%64+64:=wrap_u8 _ (by omega) (by omega)
  have e0:(ints .u8 xs)[0]? = some (.int .u8 (nth xs 0)):=Qar _ _ _ (by omega)
  have hi:∀ (ys:List Int),ys.length=32→(Tryd.prog.info? 23).map (·.size)=some (ints .u8 ys).size:=fun ys h=>by rw [infoKey,Qad,h]
  have hset:∀ (ys:List Int) (i:Nat) (v:Int),(ints .u8 ys).setIfInBounds i (.int .u8 v)=ints .u8 (ys.set i v):=fun ys i v=>Qbx _ _ _ _
  have e31:(ints .u8 (xs.set 0 (nth xs 0/8*8)))[31]? = some (.int .u8 (nth xs 31)):=by rw [Qar _ _ _ (by simp; omega),nth_set_ne _ _ _ _ (by decide)]
  have HE0:=Lib.hid e0
  go_enter Tryd.func28,Tryd.ntmps28
  go_wp2_with first
    | (with_reducible show wpList _ _ _ ((⟨_,.load 23 _,_,_,_,_⟩:Oper)::_) _ _
       refine wpList_load_row rfl 23 _ rfl w.heap.size rfl 23 (ints .u8 (clamp xs)) (0,0) _ (Qg3 _ _ _) Tryd.underlying23 rfl (hi _ (by simp [clamp,hl])) ?_)
    | (with_reducible show wpList _ _ _ ((⟨_,.store 23 _ _,_,_,_,_⟩:Oper)::_) _ _
       refine wpList_store_row rfl 23 _ _ rfl (w.heap.size+1) (ints .u8 (clamp xs)) rfl rfl 23 _ (Qea _ _ _) (hi _ (by simp [clamp,hl])) (by simp [ints,clamp,hl]) (ints_one _ _) ?_)
  refine bodyPost_ret (v:=.agg (ints .u8 (clamp xs))) (results_cell_row (p:=2) rfl _ _ (w.heap.size+1) 23 (ints .u8 (clamp xs)) (0,0) _ rfl (setRow_heap _ _ _ _ _ _ (Qea _ _ _)) Tryd.underlying23 rfl (hi _ (by simp [clamp,hl]))) rfl ⟨rfl,?_⟩
  exact below_setRow (((Below.refl _ _).alloc (qR _) _).alloc (by simp) _) (by omega) _
end Go.Proofs.YtdoadngmgmdlbaaDoor.Ladder
end
section
namespace Go.Proofs.YtdoadngmgmdlbaaDoor.Sha5
open Go Go.RowKit
open Rely Auto Own
section
variable {ds : List Deferred} {P : Program} {ops : Array Oper} {Q : Exit → Act → World → Prop} {rest : List Oper} {o : Oper} {N : Nat} {L : Env} {W : World}
theorem Qcj {k : IntKind} {e:TypeId} (x y:Operand) (tx ty:TypeId) (d:Nat) (ho:o.op=.call { callee:=.builtin .copy,args:=#[x,y],argTypes:=#[tx,ty] }) (hu:P.underlying tx=some (.slice e)) (hsz:(P.info? e).map (·.size)=some 1) (hd:o.dst=some d) (hgd:QcJ ops o N L=some true)
    {g off dl dc n B:Nat} {xs z:List Int} {v:Value} {T:TypeId} (hx:Rely.look (envN N L) x=.slice (some ⟨g,off,none⟩) dl dc) (hy:Rely.look (envN N L) y=v) (hr:RdK k B z v W)
    (hg:W.heap[g]? = some (.cells (ints k xs) T)) (hq:off+dl≤xs.length) (hn:n=min z.length dl)
    (kk:∀ W':World,Puts W g W'→W'.heap[g]? = some (.cells (ints k (xs.take off++z.take n++xs.drop (off+n))) T)→WL P ops Q rest (Qa5 ds N ((d,.int .i64 ((n:Nat):Int))::L)) W'):WL P ops Q (o::rest) (Qa5 ds N L) W:=by
  obtain ⟨a,cap,rfl,y2,y3,y4,y5⟩:=hr
  have hgo:∀ W',(Builtin.copy_ #[tx,ty] o.type #[.slice (some ⟨g,off,none⟩) dl dc,.slice a z.length cap]).run P W=.ok (goInt n) W'→(execOp (Rely.look (envN N L)) o).run P W=.ok (.value (.int .i64 ((n:Nat):Int))) W':=fun W' h=>by
    unfold execOp
    simp only [ho,resolve,invoke,builtin,Sem.run_bind,Sem.run_pure,Result.andThen_ok,List.map_toArray,List.map_cons,List.map_nil,hx,hy,h,goInt]
  rcases Nat.eq_zero_or_pos n with h0 | h0
  · refine Qcx _ _ d hd hgd (hgo W ?_) (kk W ⟨rfl,rfl,rfl,rfl,fun _ _=>rfl⟩ ?_)
    · rw [h0]; exact run_copy_none W tx ty o.type e _ _ _ _ _ _ hu hsz (hn.symm.trans h0)
    · rw [h0,List.take_zero,List.append_nil,Nat.add_zero,List.take_append_drop]; exact hg
  · obtain ⟨gz,oz,rfl,z2,z3,z4⟩:=y5.resolve_left (fun e=>by rw [e] at hn; simp at hn; omega)
    have hlen:((z.take n).map (Value.int k)).length=n:=by simp; omega
    have h:=run_copy_row (P:=P) W tx ty o.type e g off dl dc ⟨gz,oz,none⟩ z.length cap (ints k xs) T ((z.take n).map (Value.int k)) hu hsz hg (by rw [hlen]; exact hn)
      (QmX (k:=k) (ys:=z.take n) fun i hi=>by
        rw [List.length_take] at hi
        rw [z4 i (by omega)]
        simp [nth,show i<n by omega]) (by rw [hlen,Qad]; omega) (QmQ k _)
    rw [hlen] at h
    have e1:((ints k xs).toList.take off++(z.take n).map (Value.int k)++(ints k xs).toList.drop (off+n)).toArray=ints k (xs.take off++z.take n++xs.drop (off+n)):=by
      apply Array.ext'
      show (xs.map (Value.int k)).take off++(z.take n).map (Value.int k)++(xs.map (Value.int k)).drop (off+n)=(xs.take off++z.take n++xs.drop (off+n)).map (Value.int k)
      simp only [List.map_append,List.map_take,List.map_drop]
    rw [e1] at h
    exact Qcx _ _ d hd hgd (hgo _ h) (kk _ (QcF _ _ _) (setRow_heap _ _ _ _ _ _ hg))
end
theorem Qdl {z : List Int} (h:z.length=32):(List.replicate 32 (0:Int)).take 0++z.take 32++(List.replicate 32 (0:Int)).drop (0+32)=z:=by
  rw [List.take_zero,List.nil_append,List.take_of_length_le (by omega),List.drop_of_length_le (by simp),List.append_nil]
end Go.Proofs.YtdoadngmgmdlbaaDoor.Sha5
end
section
namespace Go.Proofs.YtdoadngmgmdlbaaDoor.Sha5
open Go Go.RowKit
open Rely Auto Own
open Ladder (clamp)
theorem Qku (x : Wd):Qaj (wby x):=fun y hy=>by
  unfold wby at hy
  obtain ⟨k,_,rfl⟩:=List.mem_map.1 hy
  omega
theorem dig_bytes (t : List Int):Qaj (dig t):=fun y hy=>by
  unfold dig S8.out at hy
  obtain ⟨x,_,h⟩:=List.mem_flatMap.1 hy
  exact Qku x y h
theorem Qez {xs : List Int} (h:Qaj xs):Qaj (xs.take 32):=fun x hx=>h x (List.mem_of_mem_take hx)
theorem QeI {xs : List Int} (hx:xs.length=32):(clamp xs).length=32:=by simp [clamp,hx]
theorem QoV (xs : List Int) (a b:Nat):nth (xs.drop a) b=nth xs (a+b):=by
  unfold nth
  rw [List.getD_eq_getElem?_getD,List.getD_eq_getElem?_getD,List.getElem?_drop]
theorem QoU (xs : List Int) (a b:Nat) (h:b<a):nth (xs.take a) b=nth xs b:=by
  unfold nth
  rw [List.getD_eq_getElem?_getD,List.getD_eq_getElem?_getD,List.getElem?_take,if_pos h]
theorem QdG {k : IntKind} {T:TypeId} {g n l h:Nat} {xs:List Int} {W:World} (hn:xs.length=n) (r:W.heap[g]? = some (.cells (ints k xs) T)) (h1:l≤h) (h2:h≤n) (h3:n≤maxLen):RdK k W.heap.size ((xs.drop l).take (h-l)) (.slice (some ⟨g,l,none⟩) (h-l) (n-l)) W :=
  Qem l (by rw [List.length_take,List.length_drop]; omega) r (fun i hi=>by rw [QoU _ _ _ hi,QoV]; exact Qar k xs (l+i) (by omega)) (QaB r) (by omega) (by omega)
theorem QpR (xs : List Int) (hx:xs.length=32) (hb:Qaj xs) (tc tq:TypeId) (w:World) (hc:w.heap[5]? = some (.cells (ints .u64 Qc8) tc)) (hq:w.heap[4]? = some (.cells (ints .u64 Qbo) tq)):Calls Tryd.prog 19 #[.agg (ints .u8 xs)] w (Ret w (.tuple #[.agg (ints .u8 (clamp ((dig xs).take 32))),.agg (ints .u8 ((dig xs).drop 32))])):=by
  refine enter 17 [(0,.agg (ints .u8 (xs)))] Tryd.func19 rfl rfl kj rfl <| sgC fun K3 hK3=>Qah (ints .u8 (xs)) 23 1 rfl kj kj fun g4 W1 l4 e1 r4_1=>?_
  have x1:=Ext.tr (Rely.Ext.refl w) e1
  have b4:=qT (Rely.Ext.refl w).size l4
  refine Qah (ints .u8 (List.replicate 32 0)) 23 2 rfl kj kj fun g5 W2 l5 e2 r5_2=>?_
  have x2:=Ext.tr x1 e2
  have b5:=qT x1.size l5
  refine Qah (ints .u8 (List.replicate 32 0)) 23 3 rfl kj kj fun g6 W3 l6 e3 r6_3=>?_
  have x3:=Ext.tr x2 e3
  have b6:=qT x2.size l6
  refine sgN hK3 <| sgC fun K7 hK7=>sg 1 kj <| QaW (#[.slice (some ⟨g4,0,none⟩) 32 32]) 27 1 6 rfl kj kj fun g8 W4 l8 e4 r8_4=>?_
  have b8:=qT x3.size l8
  have r4_4:=(Qaa (Qaa (Qaa r4_1 e2) e3) e4)
  have hps9:∀ p∈([(.slice (some ⟨g4,0,none⟩) 32 32,xs)]:List (Value×List Int)),RdK .u8 W4.heap.size p.2 p.1 W4∧Qaj p.2:=by
    intro p hp
    simp only [List.mem_cons,List.not_mem_nil,or_false] at hp
    rcases hp with rfl
    · exact ⟨RdK.here (Qcc (xs:=xs) (n:=32) hx r4_4 (QaB r4_4) (show 32≤maxLen from by decide)),hb⟩
  have hsh9:=Qrn g8 1 _ ([(.slice (some ⟨g4,0,none⟩) 32 32,xs)]:List (Value×List Int)) rfl (by decide) tc tq W4 (Qaa (Qaa (Qaa (Qaa hc e1) e2) e3) e4) (Qaa (Qaa (Qaa (Qaa hq e1) e2) e3) e4) r8_4 hps9 (by simp only [List.map_cons,List.map_nil,List.flatten_cons,List.flatten_nil,List.append_nil,List.length_append]; omega)
  rw [show ((List.map Prod.snd ([(.slice (some ⟨g4,0,none⟩) 32 32,xs)]:List (Value×List Int))).flatten)=xs by simp only [List.map_cons,List.map_nil,List.flatten_cons,List.flatten_nil,List.append_nil]] at hsh9
  refine Qap (.agg (ints .u8 (dig (xs)))) 41 #[.slice (some ⟨g8,0,none⟩) 1 1] 7 rfl kj kj hsh9 fun W5 e5=>?_
  have x5:=Ext.tr (Ext.tr x3 e4) e5
  refine Qah (ints .u8 (List.replicate 64 0)) 30 4 rfl kj kj fun g10 W6 l10 e6 r10_6=>Qai g10 _ (ints .u8 (dig (xs))) 30 r10_6 rfl kj (Qaf 30 _ _ g10 30 _ _ r10_6 rfl kj kj (isz (n:=64) kj ((Qad _ _).trans (dig_len _))) (eqsz (n:=64) ((Qad _ _).trans (qZ (n:=64))) ((Qad _ _).trans (dig_len _))) (ints_one _ _)) fun W7 p7 r10_7=>sgN hK7 <| wp_seq_k fun K11 hK11=>Qbk 2 [⟨none,[(2,none)]⟩,⟨none,[(4,none)]⟩] kj kj fun F hF=>QaK (Qau _) (.slice (some ⟨g5,0,none⟩) 32 32) kj kj (fun W=>kj) <| QaK (Qau _) (.slice (some ⟨g10,0+0,none⟩) (32-0) (64-0)) kj kj (fun W=>(QbA 30 _ _ _ 0 32 64 g10 0 5 rfl kj kj kj rfl ⟨.i64,kj⟩ (by omega) (by omega) (by omega))) <| QdL (hF _ fun W8 e8=>?_)
  simp only [List.nil_append,List.cons_append,List.take_succ_cons,List.take_zero,List.drop_succ_cons,List.drop_zero,finE,up]
  clear hF
  have r10_8:=(Qaa r10_7 e8)
  have hrd12:RdK .u8 W8.heap.size ((dig xs).take 32) (.slice (some ⟨g10,0+0,none⟩) (32-0) (64-0)) W8:=QdG (l:=0) (h:=32) (n:=64) (dig_len xs) r10_8 (by decide) (by decide) (by decide)
  have r5_5:=(Qaa (Qaa (Qaa r5_2 e3) e4) e5)
  refine Qcj (k:=.u8) (e:=5) (z:=(dig xs).take 32) (.tmp 8) (.tmp 9) 27 27 10 rfl kj kj rfl kj (off:=0) (dl:=32) (dc:=32) (n:=32) (xs:=List.replicate 32 0) kj kj hrd12 (Qaa (Puts.row p7 (Qaa r5_5 e6) (Qab r5_5 l10)) e8) (qT (show 0+(32)≤32 from (by omega)) (qE (qZ (n:=32)).symm)) (by rw [(Qbl (dig_len xs))]; rfl) fun W9 p9 r5_9=>?_
  have r5_9_13:W9.heap[g5]? = some (.cells (ints .u8 ((dig xs).take 32)) 23):=QaJ r5_9 (Qdl (Qbl (dig_len xs)))
  refine sgN hK11 <| wp_seq_k fun K14 hK14=>Qbk 2 [⟨none,[(3,none)]⟩,⟨none,[(4,none)]⟩] kj kj fun F hF=>QaK (Qau _) (.slice (some ⟨g6,0,none⟩) 32 32) kj kj (fun W=>kj) <| QaK (Qau _) (.slice (some ⟨g10,0+32,none⟩) (64-32) (64-32)) kj kj (fun W=>(QbA 30 _ _ _ 32 64 64 g10 0 5 rfl kj kj kj ⟨.i64,kj⟩ rfl (by omega) (by omega) (by omega))) <| QdL (hF _ fun W10 e10=>?_)
  simp only [List.nil_append,List.cons_append,List.take_succ_cons,List.take_zero,List.drop_succ_cons,List.drop_zero,finE,up]
  clear hF
  have hrd15:RdK .u8 W10.heap.size ((dig xs).drop 32) (.slice (some ⟨g10,0+32,none⟩) (64-32) (64-32)) W10:=by
    have h:=QdG (l:=32) (h:=64) (n:=64) (dig_len xs) (Qaa (Puts.row p9 r10_8 (Qas r5_5 l10)) e10) (by decide) (by decide) (by decide)
    rwa [List.take_of_length_le (by rw [List.length_drop,dig_len]; decide)] at h
  have r6_5:=(Qaa (Qaa r6_3 e4) e5)
  refine Qcj (k:=.u8) (e:=5) (z:=(dig xs).drop 32) (.tmp 11) (.tmp 12) 27 27 13 rfl kj kj rfl kj (off:=0) (dl:=32) (dc:=32) (n:=32) (xs:=List.replicate 32 0) kj kj hrd15 (Qaa (Puts.row p9 (Qaa (Puts.row p7 (Qaa r6_5 e6) (Qab r6_5 l10)) e8) (Qas r5_2 l6)) e10) (qT (show 0+(32)≤32 from (by omega)) (qE (qZ (n:=32)).symm)) (by rw [(Qbf (dig_len xs))]; rfl) fun W11 p11 r6_11=>?_
  have r6_11_16:W11.heap[g6]? = some (.cells (ints .u8 ((dig xs).drop 32)) 23):=QaJ r6_11 (Qdl (Qbf (dig_len xs)))
  refine sgN hK14 <| wp_seq_k fun K17 hK17=>QaC 3 [⟨none,[(2,none)]⟩,⟨none,[(14,some 0)]⟩,⟨none,[(3,none)]⟩] kj kj fun F hF=>?_
  have r5_11:=(Puts.row p11 (Qaa r5_9_13 e10) (Qab r5_2 l6))
  refine Qal (.agg (ints .u8 ((dig xs).take 32))) kj kj (fun W hR=>(Qac 23 _ g5 23 _ _ (Qaa (Qaa r5_11 (Qae _)) hR) rfl kj kj (isz (n:=32) kj ((Qad _ _).trans (Qbl (dig_len xs)))))) <| Qan (.agg (ints .u8 (clamp ((dig xs).take 32)))) 42 #[.agg (ints .u8 ((dig xs).take 32))] kj kj (fun W=>kj) (fun W hR=>(Ladder.clampC ((dig xs).take 32) (Qbl (dig_len xs)) (Qez (dig_bytes xs))) W) <| Qal (.agg (ints .u8 ((dig xs).drop 32))) kj kj (fun W hR=>(Qac 23 _ g6 23 _ _ (Qaa (Qaa r6_11_16 (Qae _)) hR) rfl kj kj (isz (n:=32) kj ((Qad _ _).trans (Qbf (dig_len xs)))))) <| Qa2 (hF _ kj fun W12 e12=>?_)
  simp only [ups,up,Kn.val,List.take_succ_cons,List.take_zero,List.drop_succ_cons,List.drop_zero,List.nil_append,List.cons_append]
  clear hF
  have r5_12:=(Qaa r5_11 e12)
  refine Qai g5 _ (ints .u8 (clamp ((dig xs).take 32))) 23 r5_12 rfl kj (Qaf 23 _ _ g5 23 _ _ r5_12 rfl kj kj (isz (n:=32) kj ((Qad _ _).trans (QeI (Qbl (dig_len xs))))) (eqsz (n:=32) ((Qad _ _).trans (Qbl (dig_len xs))) ((Qad _ _).trans (QeI (Qbl (dig_len xs))))) (ints_one _ _)) fun W13 p13 r5_13=>?_
  have r6_13:=(Puts.row p13 (Qaa r6_11_16 e12) (Qas r5_2 l6))
  refine Qai g6 _ (ints .u8 ((dig xs).drop 32)) 23 r6_13 rfl kj (Qaf 23 _ _ g6 23 _ _ r6_13 rfl kj kj (isz (n:=32) kj ((Qad _ _).trans (Qbf (dig_len xs)))) (eqsz (n:=32) ((Qad _ _).trans (Qbf (dig_len xs))) ((Qad _ _).trans (Qbf (dig_len xs)))) (ints_one _ _)) fun W14 p14 r6_14=>sgN hK17 <| wp_ret ?_
  repeat (first | with_reducible refine goR1 ?_ | with_reducible refine goR2 ?_)
  exact (show bodyPost _ _ _ .ret _ _ from ret2 (.agg (ints .u8 (clamp ((dig xs).take 32)))) (.agg (ints .u8 ((dig xs).drop 32))) rfl (Qa8 g5 23 _ (Puts.row p14 r5_13 (Qab r5_2 l6)) kj kj (isz (n:=32) kj ((Qad _ _).trans (QeI (Qbl (dig_len xs)))))) (Qa8 g6 23 _ r6_14 kj kj (isz (n:=32) kj ((Qad _ _).trans (Qbf (dig_len xs))))) ⟨rfl,(Puts.ext p14 (Puts.ext p13 (Ext.tr (Puts.ext p11 (Ext.tr (Puts.ext p9 (Ext.tr (Puts.ext p7 (Ext.tr x5 e6) (qT x5.size l10)) e8) b5) e10) b6) e12) b5) b6)⟩)
end Go.Proofs.YtdoadngmgmdlbaaDoor.Sha5
end
section
namespace Go.Proofs.YtdoadngmgmdlbaaDoor.Own
open Go Go.RowKit
open Rely Auto Sha
def OwnR (T : TypeId) (base:Nat) (vs:List Value) (v:Value) (W:World):Prop:=W.ownsRow base T 1 v vs.length vs∧vs.length≤maxLen
theorem Qje {T : TypeId} {base:Nat} {W:World}:OwnR T base [] (.slice none 0 0) W:=⟨⟨rfl,.inl ⟨rfl,rfl⟩⟩,Nat.zero_le _⟩
theorem OwnR.keep {T : TypeId} {base:Nat} {vs:List Value} {v:Value} {W W':World} (h:OwnR T base vs v W) (hk:∀ g,v.ownBlock=some g→W'.heap[g]? = W.heap[g]?):OwnR T base vs v W':=by
  obtain ⟨⟨h1,h2⟩,hm⟩:=h
  refine ⟨⟨h1,?_⟩,hm⟩
  rcases h2 with h2 | ⟨g,c,cur,rfl,q2,q3,q4,q5,q6,q7⟩
  · exact .inl h2
  · exact .inr ⟨g,c,cur,rfl,q2,(hk g rfl).trans q3,q4,q5,q6,q7⟩
theorem OwnR.at {T : TypeId} {base:Nat} {vs:List Value} {v:Value} {W:World} (h:OwnR T base vs v W) {g:Nat} (hg:v.ownBlock=some g):base≤g∧∃ cur,W.heap[g]? = some (.cells cur T):=by
  rcases h.1.2 with ⟨rfl,_⟩ | ⟨g',c,cur,rfl,q2,q3,_⟩
  · cases hg
  · obtain rfl:g'=g:=Option.some.inj hg
    exact ⟨q2,cur,q3⟩
theorem OwnR.ext {T : TypeId} {base:Nat} {vs:List Value} {v:Value} {W W':World} (h:OwnR T base vs v W) (e:Ext W W'):OwnR T base vs v W':=h.keep fun g hg=>by
  obtain ⟨_,c,hc⟩:=h.at hg
  exact e.block g (QaB hc)
theorem QnF {W : World} {g:Nat} {c c':Array Value} {T T':TypeId} (h:W.heap[g]? = some (.cells c T)) (h':W.heap[g]? = some (.cells c' T')) (hne:T≠T'):False:=by
  rw [h] at h'
  simp only [Option.some.injEq,Obj.cells.injEq] at h'
  exact hne h'.2.1
theorem OwnR.puts {T T':TypeId} {base g:Nat} {vs:List Value} {v:Value} {W W':World} {c':Array Value} (h:OwnR T base vs v W) (p:Puts W g W') (r:W.heap[g]? = some (.cells c' T')) (hne:T≠T'):OwnR T base vs v W':=h.keep fun k hk=>by
  obtain ⟨_,c,hc⟩:=h.at hk
  exact p.2.2.2.2 k fun e=>by subst e; exact QnF hc r hne
theorem Qc2 {T : TypeId} {base g:Nat} {vs:List Value} {v:Value} {W:World} (h:OwnR T base vs v W) (hg:g<base):v.ownBlock≠some g:=fun e=>by
  have:=(h.at e).1
  omega
theorem QcN {T T':TypeId} {base g:Nat} {vs:List Value} {v:Value} {W:World} {c:Array Value} (h:OwnR T base vs v W) (r:W.heap[g]? = some (.cells c T')) (hne:T≠T'):v.ownBlock≠some g:=fun e=>by
  obtain ⟨_,c2,hc⟩:=h.at e
  exact QnF hc r hne
theorem Qb7 {W W':World} {ob:Option Nat} {g:Nat} {o:Obj} (h:W.grownBy W' ob) (r:W.heap[g]? = some o) (hn:ob≠some g):W'.heap[g]? = some o:=(h.block g (QaB r) (fun e=>hn e.symm)).trans r
theorem QhQ {w W W':World} {ob:Option Nat} (e:Ext w W) (h:W.grownBy W' ob) (hge:∀ g,ob=some g→w.heap.size≤g):Ext w W' :=
  ⟨h.os.trans e.os,h.tape.trans e.tape,h.output.trans e.output,qT e.size h.size,fun i hi=>(h.block i (qL hi e.size) (fun q=>by have:=hge i q.symm; omega)).trans (e.block i hi)⟩
theorem OwnR.row {T : TypeId} {base n:Nat} {vs:List Value} {v:Value} {W:World} (h:OwnR T base vs v W) (hn:vs.length=n) (h0:0<n):∃ g c cur,v=.slice (some ⟨g,0,none⟩) n c∧base≤g∧W.heap[g]? = some (.cells cur T)∧∀ (i:Nat) (u:Value),vs[i]? = some u→cur[i]? = some u:=by
  subst hn
  rcases h.1.2 with ⟨_,h1⟩ | ⟨g,c,cur,h1,h2,h3,h4,h5,h6,h7⟩
  · omega
  · refine ⟨g,c,cur,h1,h2,h3,fun i u hi=>?_⟩
    have hl:i<vs.length:=(List.getElem?_eq_some_iff.1 hi).1
    rw [Nat.mul_one] at h7
    have e:(cur.toList.take vs.length)[i]? = vs[i]?:=by rw [h7]
    rw [List.getElem?_take_of_lt hl,hi] at e
    rw [←Array.getElem?_toList]
    exact e
section
variable {ds : List Deferred} {P : Program} {ops : Array Oper} {Q : Exit → Act → World → Prop} {rest : List Oper} {o : Oper} {N : Nat} {L : Env} {W : World}
theorem QcZ {T : TypeId} (base b:Nat) (s x:Operand) (t:TypeId) (ho:o.op=.call { callee:=.builtin .append,args:=#[s,x],argTypes:=#[t,t] })
    (ht:P.underlying t=some (.slice T)) (z:Value) (hi:(P.info? T).map (fun i=>(i.zero,i.size,i.bytes))=some (some z,1,b)) (hz:z.cells.size=1) (hb:b≤100) (d:Nat) (hd:o.dst=some d) (hg:QcJ ops o N L=some true) {v:Value} {vs ys:List Value} {gy m c:Nat} {Ty:TypeId} {cs:Array Value}
    (hs:Rely.look (envN N L) s=v) (hx:Rely.look (envN N L) x=.slice (some ⟨gy,0,none⟩) m c) (ry:W.heap[gy]? = some (.cells cs Ty)) (hm:ys.length=m) (hy:∀ (i:Nat) (u:Value),ys[i]? = some u→cs[i]? = some u) (h1:∀ u∈ys,u.oneCell'=true)
    (h:OwnR T base vs v W) (hn:vs.length≤100000) (hn2:m≤100000) (hV:base≤W.heap.size)
    (kk:∀ (u:Value) (W':World),OwnR T base (vs++ys) u W'→W.grownBy W' v.ownBlock→WL P ops Q rest (Qa5 ds N ((d,u)::L)) W'):WL P ops Q (o::rest) (Qa5 ds N L) W:=by
  have hii:∃ i,P.info? T=some i∧i.zero=some z∧i.size=1∧i.bytes=b:=by
    cases hq:P.info? T with
    | none=>rw [hq] at hi; cases hi
    | some i =>
      rw [hq] at hi
      simp only [Option.map_some,Option.some.injEq,Prod.mk.injEq] at hi
      exact ⟨i,rfl,hi.1,hi.2.1,hi.2.2⟩
  obtain ⟨i,hq,hi1,hi2,hi3⟩:=hii
  obtain ⟨v',W',hr,h2,h3,_,h5⟩:=run_append_own_at (P:=P) W base t o.type T i z 1 b ht hq hi1 hi2 hi3 hz (by omega) v vs.length vs h.1 ⟨gy,0,none⟩ m c ys (by omega)
    (fun j u hu=>by
      rw [WideShapes.add_plain]
      exact Qa9 ry (by rw [Nat.zero_add]; exact hy j u hu)) h1 (by simp only [maxLen]; omega) (by
        have:(vs.length+m)*b≤200000*100:=Nat.mul_le_mul (by omega) hb
        omega) hV
  refine Qcx _ _ d hd hg (show (execOp (Rely.look (envN N L)) o).run P W=.ok (.value v') W' from ?_) (kk v' W' ⟨by rw [List.length_append,hm]; exact h2,by rw [List.length_append,hm]; simp only [maxLen]; omega⟩ h3)
  unfold execOp
  simp only [ho,resolve,invoke,builtin,Sem.run_bind,Sem.run_pure,Result.andThen_ok,List.map_toArray,List.map_cons,List.map_nil,hs,hx,hr]
end
end Go.Proofs.YtdoadngmgmdlbaaDoor.Own
end
section
namespace Go.Proofs.YtdoadngmgmdlbaaDoor.Auto
open Go Go.RowKit
open Rely
section
variable {P : Program} {Rd : World → Prop} {w0 : World} {base N : Nat} {L : Env} {U : List Nat} {F : List Kn → Prop} {o : Oper} {os : List Oper} {s : Src} {ss : List Src} {C : List Kn}
theorem Qav (v : Value) (hs:seen C o s=true) (hg:gOk s.guard (get (envS N L (C.map Kn.val) s.reads))=true) (hd:o.dst.isNone=false)
    (h:∀ W,(execOp (Rely.look (get (envS N L (C.map Kn.val) s.reads))) o).run P W=.ok (.value v) W)
    (hk:Qc5 P Rd w0 base N L U F os ss (C++[.is v])):Qc5 P Rd w0 base N L U F (o::os) (s::ss) C :=
  ⟨.is v,(fun hn=>by rw [hd] at hn; cases hn),(fun _=>by
    split
    · exact ⟨hs,v,rfl,fun W _=>Qcs hg (h W)⟩
    · intro ρ W hR hh
      rw [QcW hs hh]
      refine Qcs hg ?_
      unfold QaM
      rw [QdD hs hh,h W]
      exact ⟨Ext.refl _,rfl⟩),hk⟩
theorem Qbq (v : Value) (f:FuncId) (args:Array Value) (hu:U.contains C.length=false) (hs:seen C o s=true) (hg:gOk s.guard (get (envS N L (C.map Kn.val) s.reads))=true) (hd:o.dst.isNone=false)
    (h:∀ W,(execOp (Rely.look (get (envS N L (C.map Kn.val) s.reads))) o).run P W=.ok (.enter f args) W) (hc:∀ W,Ext w0 W→Calls P f args W (Ret W v))
    (hk:Qc5 P Rd w0 base N L U F os ss (C++[.is v])):Qc5 P Rd w0 base N L U F (o::os) (s::ss) C :=
  t_op (.is v) hu hs hg hd (fun W hR=>by
    rw [h]
    exact ⟨Ext.refl _,(hc W hR).mono fun _ _ h=>h.const⟩) hk
theorem Qgg (cs : Array Value) (T:TypeId) (hu:U.contains C.length=false) (hs:seen C o s=true) (hb:base≤w0.heap.size) (hg:gOk s.guard (get (envS N L (C.map Kn.val) s.reads))=true) (hd:o.dst.isNone=false)
    (h:∀ W,(execOp (Rely.look (get (envS N L (C.map Kn.val) s.reads))) o).run P W=.ok (.value (.pointer (some ⟨W.heap.size,0,none⟩))) (W.alloc (.cells cs T)))
    (hk:Qc5 P Rd w0 base N L U F os ss (C++[.new cs T])):Qc5 P Rd w0 base N L U F (o::os) (s::ss) C :=
  t_op (.new cs T) hu hs hg hd (fun W hR=>by
    rw [h]
    refine ⟨QaG _ _,_,rfl,?_,heap_alloc_new _ _⟩
    have:=hR.size
    omega) hk
end
end Go.Proofs.YtdoadngmgmdlbaaDoor.Auto
end
section
section
namespace Go.Proofs.YtdoadngmgmdlbaaDoor.Rely
open Go
section
variable {P : Program} {R : World → World → Prop} {w0 : World} {r0 : Tmp → Value} {F : List Fact → Prop} {o : Oper} {os : List Oper} {s : Src} {ss : List Src} {E : List Fact}
theorem Qao (c : Value) (h:∀ (ρ:Tmp→Value) (W:World),R w0 W→QbX r0 E ρ W s.reads→guarded s.guard ρ (QaM P R o ρ W fun v _=>v=c) (undef=c))
    (hk:relies P R w0 r0 F os ss (E++[fun v _=>v=c])):relies P R w0 r0 F (o::os) (s::ss) E :=
  ⟨fun v _=>v=c,fun _ _ _ _ h=>h,h,hk⟩
end
end Go.Proofs.YtdoadngmgmdlbaaDoor.Rely
end
section
namespace Go.Proofs.YtdoadngmgmdlbaaDoor.Rely
open Go Go.RowKit
theorem QlF (W : World) (n:Nat):Ext W (W.drewN n):=⟨rfl,rfl,rfl,qR _,fun _ _=>rfl⟩
end Go.Proofs.YtdoadngmgmdlbaaDoor.Rely
end
section
namespace Go.Proofs.YtdoadngmgmdlbaaDoor.Rely
open Go Go.RowKit
theorem Qgo (xs : List Int) (i:Nat) (v:Int) (h:i<xs.length):nth (xs.set i v) i=v:=by simp [nth,h]
theorem nth_set_ne (xs : List Int) (i j:Nat) (v:Int) (h:i≠j):nth (xs.set i v) j=nth xs j:=by
  simp [nth,List.getElem?_set_ne h]
theorem Qa6 {P : Program} {o:Oper} {ρ:Tmp→Value} {W:World} (ty:TypeId) (x:Operand) (ho:o.op=.load ty x)
    (g:Nat) (hx:look ρ x=.pointer (some ⟨g,0,none⟩)) (t:TypeId) (cs:Array Value) (fr:Nat×Nat) (d:TypeDesc) (hg:W.heap[g]? = some (.cells cs t fr))
    (hu:P.underlying ty=some d) (hd:(match d with | .struct _ | .array _ _=>true | _=>false)=true) (hi:(P.info? ty).map (·.size)=some cs.size) :
    QaM P Ext o ρ W (fun v _=>v=.agg cs):=by
  unfold QaM execOp
  simp only [ho,hx,Instr.loadAt,Instr.sureAddr,Sem.run_bind,Sem.run_pure,Result.andThen_ok,run_loadVar_row W g t ty cs fr d hg hu hd hi]
  exact ⟨Ext.refl _,rfl⟩
theorem QcH {P : Program} {o:Oper} {ρ:Tmp→Value} {W:World} (ty tr:TypeId) (x y:Operand) (ho:o.op=.binOp .eql ty x y tr) (u v:Array Value) (r:Value)
    (hm:P.eqGuardType P.depth ty=false)
    (hx:look ρ x=.agg u) (hy:look ρ y=.agg v) (h:(binOp .eql ty (.agg u) (.agg v)).run P W=.ok r W) :
    QaM P Ext o ρ W (fun z _=>z=r):=by
  unfold QaM execOp
  simp only [ho,hx,hy,Sem.run_bind,Sem.run_pure,run_eqGuard_agg (hm:=hm),Result.andThen_ok,h]
  exact ⟨Ext.refl _,rfl⟩
end Go.Proofs.YtdoadngmgmdlbaaDoor.Rely
end
section
namespace Go.Proofs.YtdoadngmgmdlbaaDoor.Rely
open Go Go.RowKit
theorem QbQ {W : World} {g:Nat} {cs:Array Value} {t:TypeId} (i:Nat) (v:Value) (h:W.heap[g]? = some (.cells cs t)):(W.setCell ⟨g,i,none⟩ v).heap[g]? = some (.cells (cs.setIfInBounds i v) t):=by
  simp [World.setCell,Array.getElem?_modify,h]
theorem Qa3 {W : World} {g k:Nat} (i:Nat) (v:Value) (hk:k≠g):(W.setCell ⟨g,i,none⟩ v).heap[k]? = W.heap[k]?:=by
  simp [World.setCell,Array.getElem?_modify,Ne.symm hk]
theorem QbS {w W:World} {g:Nat} (h:Ext w W) (hg:w.heap.size≤g) (i:Nat) (v:Value):Ext w (W.setCell ⟨g,i,none⟩ v):=h.setCell (p:=⟨g,i,none⟩) hg v
theorem QaA {w W:World} {g:Nat} (h:Ext w W) (hg:w.heap.size≤g) (cs:Array Value):Ext w (W.setRow g cs) :=
  ⟨h.os,h.tape,h.output,by simpa using h.size,fun k hk=>(setRow_other W g k cs (by omega)).trans (h.block k hk)⟩
end Go.Proofs.YtdoadngmgmdlbaaDoor.Rely
end
section
namespace Go.Proofs.YtdoadngmgmdlbaaDoor.Rely
open Go Go.RowKit
theorem QbH {F : Fence} {n:Nat} {P:Program} {ops:Array Oper} {rest:List Oper} {o:Oper} {a:Act} {w:World} {Q:Exit→Act→World→Prop} (hgd:o.guard=none) (ty:TypeId) (x:Operand) (ho:o.op=.load ty x)
    (g:Nat) (hx:a.eval x=.pointer (some ⟨g,0,none⟩)) (t:TypeId) (cs:Array Value) (fr:Nat×Nat) (d:TypeDesc) (hg:w.heap[g]? = some (.cells cs t fr))
    (hu:P.underlying ty=some d) (hd:(match d with | .struct _ | .array _ _=>true | _=>false)=true) (hi:(P.info? ty).map (·.size)=some cs.size)
    (h:wpListIn F n P ops Q rest (a.put o.dst (.agg cs)) w):wpListIn F n P ops Q (o::rest) a w:=by
  refine wpListIn_plain hgd fun K hK'=>?_
  unfold Oper.wpIn
  refine ⟨?_,?_⟩
  · simp [Oper.about,ho]
  · rw [Oper.semAt_plain F _ _ (by rw [ho]; intro c hc'; cases hc')]
    unfold execOp
    simp only [ho,hx,Instr.loadAt,Instr.sureAddr,Sem.run_bind,Sem.run_pure,Result.andThen_ok,run_loadVar_row w g t ty cs fr d hg hu hd hi]
    exact hK' _ _ h
theorem QbB {F : Fence} {n:Nat} {P:Program} {ops:Array Oper} {rest:List Oper} {o:Oper} {a:Act} {w:World} {Q:Exit→Act→World→Prop} (hgd:o.guard=none) (ty:TypeId) (x y:Operand) (ho:o.op=.store ty x y)
    (g:Nat) (cells:Array Value) (hx:a.eval x=.pointer (some ⟨g,0,none⟩)) (hy:a.eval y=.agg cells)
    (t:TypeId) (old:Array Value) (hg:w.heap[g]? = some (.cells old t (0,0))) (hi:(P.info? ty).map (·.size)=some cells.size)
    (hold:old.size=cells.size) (h1:cells.all (·.oneCell')=true)
    (h:wpListIn F n P ops Q rest (a.put o.dst undef) (w.setRow g cells)):wpListIn F n P ops Q (o::rest) a w:=by
  refine wpListIn_plain hgd fun K hK'=>?_
  unfold Oper.wpIn
  refine ⟨?_,?_⟩
  · simp [Oper.about,ho]
  · rw [Oper.semAt_plain F _ _ (by rw [ho]; intro c hc'; cases hc')]
    unfold execOp
    simp only [ho,hx,hy,Instr.storeAt,Instr.sureAddr,Sem.run_bind,Sem.run_pure,Result.andThen_ok,run_storeVar_row w g t ty old cells hg hi hold h1]
    exact hK' _ _ h
theorem Qdi {W : World} {g:Nat} {cs:Array Value} {t:TypeId} (hg:W.heap[g]? = some (.cells cs t)) (new:Array Value):KeepsOthers W (W.setRow g new) :=
  ⟨by simp,fun k o hk ho=>by
    refine (setRow_other W g k new fun e=>?_).trans hk
    subst e
    rw [hg] at hk
    cases hk
    cases ho⟩
theorem QeK {n : Nat} {W W':World} (h:Ext W W') (hn:n≤W.heap.size):Below n W W':=h.mono hn
theorem QdO {n : Nat} {a W:World} (h:Below n a W) {g:Nat} (hg:n≤g) (cs:Array Value):Below n a (W.setRow g cs) :=
  ⟨h.os,h.tape,h.output,by simpa using h.size,fun k hk=>(setRow_other W g k cs (by omega)).trans (h.block k hk)⟩
end Go.Proofs.YtdoadngmgmdlbaaDoor.Rely
end
section
namespace Go.Proofs.YtdoadngmgmdlbaaDoor.Rely
open Go
def QjC (D : List Nat) (E:List Fact):Prop:=∀ j∈D,∀ u W,(E.getD j fun _ _=>True) u W→∃ g,u=.pointer (some ⟨g,0,none⟩)∧g<W.heap.size
section
variable {P : Program} {R : World → World → Prop} {w0 : World} {a0 : Act}
theorem Qge {l : List Oper} {n N:Nat} {S:List Src} {E:List Fact} {D:List Nat} {Q:Exit→Act→World→Prop} (hD:Qdm l D=true) (hB:QjC D E) (hok:ok l n N S=true) (hN:a0.tmps.size=N) (hrf:∀ a,R a a) (htr:∀ {a b c:World},R a b→R b c→R a c)
    (hE:E.length=(l.take n).length) (hst:∀ φ∈E,QbP R φ)
    (hop:∀ j o s,(l.take n)[j]? = some o→S[j]? = some s→opOk P R w0 (slots a0) E o s (E.getD j fun _ _=>True))
    (hfin:∀ W,R w0 W→finP (fun a W=>wpList P l.toArray Q (l.drop n) a W) D (l.take n) E 0 [] a0 W) :
    ∀ (fuel:Nat) (listed:Array Bool) (a:Act) (W:World) (vs:Nat→Value),Inv R w0 a0 l.toArray E n listed a W vs→Qkp D n listed vs→fuel=left l.toArray listed→wpAny P .any l.toArray Q fuel listed a W:=by
  simp only [ok,Bool.and_eq_true,decide_eq_true_eq] at hok
  obtain ⟨⟨⟨⟨⟨hn,hsrc⟩,hdst⟩,hedge⟩,htail⟩,hdt⟩:=hok
  have hlen:(l.take n).length=n:=by simp [hn]
  have hget:∀ i,i<n→(l.take n)[i]? = l[i]?:=fun i hi=>by simp [hi]
  have hgd:∀ i,(E.getD i fun _ _=>True)=(fun _ _=>True)∨(E.getD i fun _ _=>True)∈E:=fun i=>by
    rcases Nat.lt_or_ge i E.length with h | h
    · right; simp [h]
    · left; simp [List.getElem?_eq_none h]
  have hstg:∀ i,QbP R (E.getD i fun _ _=>True):=fun i=>by
    rcases hgd i with h | h
    · rw [h]; exact fun _ _ _ _ _=>trivial
    · exact hst _ h
  have hanc:∀ j i,((masks l #[]).getD j 0).testBit i=true→Anc l.toArray i j:=QdI l.toArray l #[] (fun j=>by simp) (fun j i h=>by simp at h)
  have count:∀ (listed:Array Bool),(∀ i,i<n→listed.getD i true=true)→(∀ i,n≤i→i<l.length→listed.getD i true=false)→left l.toArray listed=l.length-n:=by
    intro listed h1 h2
    unfold left
    simp only [List.size_toArray]
    have:∀ m,m≤l.length→(List.range m).countP (fun i=>!listed.getD i true)=m-n:=by
      intro m
      induction m with
      | zero=>intro _; simp
      | succ m ih =>
        intro hm
        rw [List.range_succ,List.countP_append,ih (by omega),List.countP_singleton]
        by_cases hmn:m<n
        · simp only [h1 m hmn,Bool.not_true,Bool.false_eq_true,if_false]; omega
        · simp only [h2 m (by omega) (by omega),Bool.not_false,if_true]; omega
    exact this l.length (qR _)
  have done:∀ (fuel:Nat) (listed:Array Bool) (a:Act) (W:World) (vs:Nat→Value),Inv R w0 a0 l.toArray E n listed a W vs→Qkp D n listed vs→fuel=left l.toArray listed→(∀ i,i<n→listed.getD i true=true)→wpAny P .any l.toArray Q fuel listed a W:=by
    intro fuel listed a W vs inv hpr hf hall
    have hs:listed.size=l.length:=by simpa using inv.size
    have hall':∀ i,i<n→listed.getD i false=true:=fun i hi=>by
      cases hx:listed.getD i false with
      | true=>rfl
      | false=>have:=getD_in (by omega) hx; rw [hall i hi] at this; cases this
    refine Qgm htail hedge fuel n listed a W (qR _) hn hs inv.closed hall' inv.tail (by rw [hf]; exact count listed hall (fun i h1 h2=>getD_in (by omega) (inv.tail i h1))) ?_
    have hq:=Qhb (D:=D) (l.take n) E a0 vs 0 [] (hfin W inv.rel) hE (fun i hi=>by
      rw [Nat.zero_add]
      exact inv.facts i (hall' i (by omega)) (by omega)) (fun u hu=>by cases hu) (fun i k hi hk hin hkn hne=>hpr i k hi hk (hall' i (by omega)) (hall' k (by omega)) (by omega) (by omega) hne)
    have heq:Qbe (l.take n) vs 0 a0=a:=by
      have hsz:=QcR (l.take n) vs 0 a0
      have ht:(Qbe (l.take n) vs 0 a0).tmps=a.tmps:=by
        refine Array.ext_getElem? fun t=>?_
        by_cases hw:∃ (i:Nat) (o:Oper),(l.take n)[i]? = some o∧o.dst=some t
        · obtain ⟨i,o,hi,ho⟩:=hw
          have hin:i<n:=by have:=(List.getElem?_eq_some_iff.1 hi).1; omega
          rw [Qc0 (l.take n) vs 0 a0 t i o hdst hN hi ho,Nat.zero_add]
          exact (inv.vals i o t (hall' i hin) hin (by rw [hget i hin] at hi; simpa using hi) ho).symm
        · rw [Qcd (l.take n) vs 0 a0 t (fun o ho he=>by
            obtain ⟨i,hi⟩:=List.mem_iff_getElem?.1 ho
            exact hw ⟨i,o,hi,he⟩)]
          refine (inv.rest t fun i o _ hin hi he=>hw ⟨i,o,by rw [hget i hin]; simpa using hi,he⟩).symm
      have hd:=hsz.2.trans inv.defers.symm
      generalize Qbe (l.take n) vs 0 a0=b at *
      cases a; cases b
      simp_all
    rw [heq] at hq
    exact hq
  have main:∀ (fuel:Nat) (listed:Array Bool) (a:Act) (W:World) (vs:Nat→Value),Inv R w0 a0 l.toArray E n listed a W vs→Qkp D n listed vs→fuel=left l.toArray listed→wpAny P .any l.toArray Q fuel listed a W:=by
    intro fuel
    induction fuel with
    | zero =>
      intro listed a W vs inv hpr hf
      refine done 0 listed a W vs inv hpr hf fun i hi=>?_
      cases hx:listed.getD i true with
      | true=>rfl
      | false =>
        have:=QgV (ops:=l.toArray) (by simp; omega) hx
        omega
    | succ fuel ih =>
      intro listed a W vs inv hpr hf
      by_cases hA:∀ i,i<n→listed.getD i true=true
      · exact done _ listed a W vs inv hpr hf hA
      · have hs:listed.size=l.length:=by simpa using inv.size
        obtain ⟨i0,hi0,hu0⟩:∃ i,i<n∧listed.getD i true=false:=by
          refine Classical.byContradiction fun hc=>hA fun i hi=>?_
          cases hx:listed.getD i true with
          | true=>rfl
          | false=>exact absurd ⟨i,hi,hx⟩ hc
        refine ⟨fun hr=>?_,fun j hj=>?_⟩
        · obtain ⟨j,hj⟩:=QcQ hedge (listed:=listed) i0 (by omega) hu0
          rw [hr] at hj; cases hj
        · obtain ⟨hju,oj,hoj,_⟩:=mem_ready.1 hj
          have hoj':l[j]? = some oj:=by simpa using hoj
          have hjl:j<l.length:=(List.getElem?_eq_some_iff.1 hoj').1
          have hjn:j<n:=by
            rcases Nat.lt_or_ge j n with h | h
            · exact h
            · exfalso
              have h3:=List.all_eq_true.1 htail j (List.mem_range.2 hjl)
              simp only [Bool.or_eq_true,decide_eq_true_eq] at h3
              rcases h3 with h3 | h3
              · omega
              · have h4:=List.all_eq_true.1 h3 i0 (List.mem_range.2 (by omega))
                have:=QbO inv.closed hj (hanc j i0 h4)
                rw [Qbr this] at hu0
                cases hu0
          obtain ⟨s,hsj,hso⟩:=Qfq (l.take n) S 0 hsrc j oj (by rw [hget j hjn]; exact hoj')
          rw [Nat.zero_add] at hso
          simp only [QjK,Bool.and_eq_true] at hso
          obtain ⟨hg,hrd⟩:=hso
          have hg':Qd5 l.toArray oj=some s.guard:=by simpa using hg
          have holds:∀ (r:List (Tmp×Option Nat)),r.all (Qeg l (masks l #[]) j)=true→QbX (slots a0) E (slots a) W r:=by
            intro r
            induction r with
            | nil=>intro _; trivial
            | cons x r ihr =>
              intro hr
              simp only [List.all_cons,Bool.and_eq_true] at hr
              obtain ⟨t,si⟩:=x
              cases si with
              | none =>
                refine ⟨?_,ihr hr.2⟩
                have h1:=hr.1
                simp only [Qeg] at h1
                have h2:a.tmps[t]? = a0.tmps[t]?:=inv.rest t fun i o hli hin hio hd=>by
                  have h3:=List.all_eq_true.1 h1 (o,i) (by
                    rw [List.mem_iff_getElem?]
                    refine ⟨i,?_⟩
                    rw [List.getElem?_zipIdx]
                    have:l[i]? = some o:=by simpa using hio
                    simp [this])
                  simp only [hd,bne_self_eq_false,Bool.false_or,Bool.or_eq_true,beq_iff_eq] at h3
                  have hlj:listed.getD j false=true:=by
                    rcases h3 with h3 | h3
                    · exact inv.closed.anc (hanc i j h3) hli
                    · rw [←h3]; exact hli
                  rw [Qbr hlj] at hju
                  cases hju
                simp only [slots,Array.getD_eq_getD_getElem?,h2]
              | some i =>
                refine ⟨?_,ihr hr.2⟩
                have h1:=hr.1
                simp only [Qeg,Bool.and_eq_true,decide_eq_true_eq,beq_iff_eq] at h1
                obtain ⟨⟨hij,hbit⟩,hdi⟩:=h1
                have hli:=QbO inv.closed hj (hanc j i hbit)
                obtain ⟨oi,hoi,hdi'⟩:∃ oi,l[i]? = some oi∧oi.dst=some t:=by
                  cases hx:l[i]? with
                  | none=>rw [hx] at hdi; cases hdi
                  | some oi=>rw [hx] at hdi; exact ⟨oi,rfl,hdi⟩
                have hv:=inv.vals i oi t hli (by omega) (by simpa using hoi) hdi'
                have:slots a t=vs i:=by simp only [slots,Array.getD_eq_getD_getElem?,hv,Option.getD_some]
                rw [this]
                exact inv.facts i hli (by omega)
          have hopj:=hop j oj s (by rw [hget j hjn]; exact hoj') hsj (slots a) W inv.rel (holds s.reads hrd)
          have next:∀ v W',R W W'→((E.getD j fun _ _=>True) v W'∧(j∈D→v=.pointer (some ⟨W.heap.size,0,none⟩)))→wpAny P .any l.toArray Q fuel (listed.setIfInBounds j true) (a.put oj.dst v) W':=by
            intro v W' hR ⟨hφ,hfresh⟩
            have hjs:j<listed.size:=by omega
            have hlist:∀ i,(listed.setIfInBounds j true).getD i false=true→i=j∨listed.getD i false=true:=fun i hi=>by
              by_cases hij:j=i
              · exact .inl hij.symm
              · rw [getD_set_ne false hij] at hi; exact .inr hi
            refine ih _ _ W' (fun i=>if i=j then v else vs i) ⟨by simp [inv.size],inv.closed.set hj,htr inv.rel hR,(Qds _ _ _).trans inv.defers,(QdT _ _ _).trans inv.asize,?_,?_,?_,?_⟩ ?_ ?_
            · intro i hi hin
              by_cases hij:i=j
              · subst hij; simpa using hφ
              · simp only [hij,if_false]
                rcases hlist i hi with h | h
                · exact absurd h hij
                · exact hstg i _ _ _ hR (inv.facts i h hin)
            · intro i o d hi hin hio hd
              by_cases hij:i=j
              · subst hij
                obtain rfl:o=oj:=Option.some.inj (hio.symm.trans hoj)
                rw [hd,Qdr _ _ _ (by rw [inv.asize,hN]; exact QfU (l.take n) hdst i o d (by rw [hget i hin]; exact hoj') hd)]
                simp
              · simp only [hij,if_false]
                rcases hlist i hi with h | h
                · exact absurd h hij
                · rw [Qce _ _ _ _ (QfT (l.take n) hdst i j o oj d (by rw [hget i hin]; simpa using hio) (by rw [hget j hjn]; exact hoj') hij hd)]
                  exact inv.vals i o d h hin hio hd
            · intro t ht
              rw [Qce _ _ _ _ (ht j oj (by simp [Array.getElem?_setIfInBounds_self_of_lt hjs]) hjn hoj)]
              exact inv.rest t fun i o hi hin hio=>ht i o (getD_set_true hi) hin hio
            · intro i hi
              rw [getD_set_ne false (by omega)]
              exact inv.tail i hi
            · have old:∀ k,k∈D→listed.getD k false=true→k<n→j∈D→vs k≠v:=fun k hk hl hkn hjD he=>by
                obtain ⟨g,hg1,hg2⟩:=hB k hk _ _ (inv.facts k hl hkn)
                rw [hg1,hfresh hjD] at he
                simp only [Value.pointer.injEq,Option.some.injEq,Addr.mk.injEq,and_true] at he
                omega
              intro i k hi hk hli hlk hin hkn hne
              by_cases hij:i=j
              · by_cases hkj:k=j
                · exact absurd (hij.trans hkj.symm) hne
                · simp only [hij,hkj,if_true,if_false]
                  exact (old k hk ((hlist k hlk).resolve_left hkj) hkn (hij▸hi)).symm
              · by_cases hkj:k=j
                · simp only [hij,hkj,if_true,if_false]
                  exact old i hi ((hlist i hli).resolve_left hij) hin (hkj▸hk)
                · simp only [hij,hkj,if_false]
                  exact hpr i k hi hk ((hlist i hli).resolve_left hij) ((hlist k hlk).resolve_left hkj) hin hkn hne
            · have:=QeB hju inv.size
              omega
          refine Qci hoj ?_
          rw [Qct hg']
          by_cases hb:gOk s.guard (slots a)=true
          · rw [if_pos hb]
            refine Qf9 (R:=R) (W:=W) (φ:=fun v W'=>(E.getD j fun _ _=>True) v W'∧(j∈D→v=.pointer (some ⟨W.heap.size,0,none⟩))) (fun {_ _ _} h1 h2=>htr h1 h2) ?_ next
            cases hgd':s.guard with
            | none=>rw [hgd'] at hopj; exact Qdg hD hoj' hopj
            | some db =>
              rw [hgd'] at hopj hb
              exact Qdg hD hoj' ((if_pos hb).mp hopj)
          · rw [if_neg hb]
            refine next undef W (hrf W) ⟨?_,fun hjD=>absurd (noguard hD hjD hoj' hg') (fun e=>hb (by rw [e]; rfl))⟩
            cases hgd':s.guard with
            | none=>rw [hgd'] at hb; exact absurd rfl hb
            | some db =>
              rw [hgd'] at hopj hb
              exact (if_neg hb).mp hopj
  exact main
def QjD {P : Program} {R:World→World→Prop} {Q:Exit→Act→World→Prop} {a:Act} {w:World} {l:List Oper} {n:Nat} {D:List Nat} (F:List Fact→Prop):Prop :=
  ∀ E,QjC D E→(∀ W,R w.drew W→finP (fun a W=>wpList P l.toArray Q (l.drop n) a W) D (l.take n) E 0 [] a W)→F E
theorem QjD.out {P : Program} {R:World→World→Prop} {Q:Exit→Act→World→Prop} {a:Act} {w:World} {l:List Oper} {n:Nat} {D:List Nat} {F:List Fact→Prop} (h:QjD (P:=P) (R:=R) (Q:=Q) (a:=a) (w:=w) (l:=l) (n:=n) (D:=D) F) {E:List Fact} (b:QjC D E)
    (k:∀ W,R w.drew W→finP (fun a W=>wpList P l.toArray Q (l.drop n) a W) D (l.take n) E 0 [] a W):F E:=h E b k
theorem Qfx {id : Nat} {Q:Exit→Act→World→Prop} {a:Act} {w:World} {l:List Oper} (R:World→World→Prop) (n N:Nat) (S:List Src) (D:List Nat) (hD:Qdm l D=true) (hm:P.follows .mixedOrders=true) (hok:ok l n N S=true) (hN:a.tmps.size=N)
    (hrf:∀ a,R a a) (htr:∀ {a b c:World},R a b→R b c→R a c)
    (h:∀ (F:List Fact→Prop) (r0:Tmp→Value),r0=slots a→QjD (P:=P) (R:=R) (Q:=Q) (a:=a) (w:=w) (l:=l) (n:=n) (D:=D) F→relies P R w.drew r0 F (l.take n) S []):(Code.region id l.toArray true).wp P Q a w:=by
  have hok':=hok
  simp only [ok,Bool.and_eq_true,decide_eq_true_eq] at hok'
  obtain ⟨⟨⟨⟨⟨hn,hsrc⟩,hdst⟩,hedge⟩,htail⟩,hdt⟩:=hok'
  obtain ⟨E,hl,_,hst,hop,hB,hfin⟩:=QdF (M:=masks l #[]) (l.take n) S [] (h (fun E=>QjC D E∧∀ W,R w.drew W→finP (fun a W=>wpList P l.toArray Q (l.drop n) a W) D (l.take n) E 0 [] a W) _ rfl (show QjD _ from fun _ b h=>⟨b,h⟩)) hsrc (fun _ h=>by cases h)
  refine wp_region_any hm ?_
  have hcount:l.toArray.size=left l.toArray (Array.replicate l.toArray.size false):=by
    unfold left
    have:∀ m,m≤l.toArray.size→(List.range m).countP (fun i=>!(Array.replicate l.toArray.size false).getD i true)=m:=by
      intro m
      induction m with
      | zero=>intro _; simp
      | succ m ih =>
        intro hm
        rw [List.range_succ,List.countP_append,ih (by omega),List.countP_singleton]
        have:(Array.replicate l.toArray.size false).getD m true=false:=by simp at hm ⊢; simp [show m<l.length by omega]
        simp only [this,Bool.not_false,if_true]
    exact (this _ (qR _)).symm
  refine Qge (R:=R) (w0:=w.drew) (a0:=a) hD hB hok hN hrf htr (by simpa using hl) hst (fun j o s hj hs=>by simpa using hop j o s hj hs) hfin _ _ a _ (fun _=>undef) ⟨by simp,?_,hrf _,rfl,rfl,?_,?_,?_,?_⟩ ?_ hcount
  · intro j o ho hl
    rw [getD_replicate_false] at hl; cases hl
  · intro i hi; rw [getD_replicate_false] at hi; cases hi
  · intro i o d hi; rw [getD_replicate_false] at hi; cases hi
  · intro t _; rfl
  · intro i _; exact getD_replicate_false _ _
  · intro i k _ _ hi; rw [getD_replicate_false] at hi; cases hi
end
end Go.Proofs.YtdoadngmgmdlbaaDoor.Rely
end
section
namespace Go.Proofs.YtdoadngmgmdlbaaDoor.Auto
open Go Go.RowKit
open Rely
variable {ds : List Deferred}
section
variable {P : Program} {w0 : World} {base N : Nat} {L : Env} {F : List Kn → Prop} {o : Oper} {os : List Oper} {s : Src} {ss : List Src} {C : List Kn}
theorem Qb5 (cs : Array Value) (T:TypeId) (hs:seen C o s=true) (hb:base≤w0.heap.size) (hg:gOk s.guard (get (envS N L (C.map Kn.val) s.reads))=true)
    (h:∀ W,(execOp (Rely.look (get (envS N L (C.map Kn.val) s.reads))) o).run P W=.ok (.value (.pointer (some ⟨W.heap.size,0,none⟩))) (W.alloc (.cells cs T)))
    (hk:steps P w0 base N L F os ss (C++[.new cs T])):steps P w0 base N L F (o::os) (s::ss) C :=
  QjB (.new cs T) hs hg (fun W hR=>by
    rw [h]
    refine ⟨QaG _ _,_,rfl,?_,heap_alloc_new _ _⟩
    have:=hR.size
    omega) hk
end
theorem QfQ {base : Nat} {W:World}:∀ (os:List Oper) (C:List Kn) (acc:List Nat) (L:Env) (A B:Env→World→Prop),(∀ L W,A L W→B L W)→fins base A os C acc L W→fins base B os C acc L W
  | [],C,acc,L,A,B,h,hh=>by cases C <;> exact h _ _ hh
  | o::os,[],acc,L,A,B,h,hh=>h _ _ hh
  | o::os,.is c::C,acc,L,A,B,h,hh=>QfQ os C acc _ A B h hh
  | o::os,.new cs T::C,acc,L,A,B,h,hh=>fun g h1 h2 h3=>QfQ os C _ _ A B h (hh g h1 h2 h3)
theorem QaX {P : Program} {id:Nat} {Q:Exit→Act→World→Prop} {N:Nat} {L:Env} {w:World} {l:List Oper} (n:Nat) (S:List Src) (D:List Nat) (hD:Qdm l D=true) (hm:P.follows .mixedOrders=true) (hok:ok l n N S=true)
    (h:∀ F:List Kn→Prop,(∀ C,Qei C 0=D→(∀ W,Ext w W→fins w.heap.size (fun L W=>WL P l.toArray Q (l.drop n) (Qa5 ds N L) W) (l.take n) C [] L W)→F C)→steps P w.drew w.heap.size N L F (l.take n) S []) :
    (Code.region id l.toArray true).wp P Q (Qa5 ds N L) w:=by
  refine Qfx Ext n N S D hD hm hok (QdR N L) Ext.refl Ext.trans fun F r0 hr hF=>?_
  rw [Qcp] at hr
  subst hr
  have:=h (fun C=>Qei C 0=D∧∀ W,Ext w W→fins w.heap.size (fun L W=>WL P l.toArray Q (l.drop n) (Qa5 ds N L) W) (l.take n) C [] L W) (fun C h1 h2=>⟨h1,h2⟩)
  refine QdA (F:=fun C=>Qei C 0=D∧∀ W,Ext w W→fins w.heap.size (fun L W=>WL P l.toArray Q (l.drop n) (Qa5 ds N L) W) (l.take n) C [] L W) (G:=F) (fun C h=>hF.out ?_ fun W hR=>?_) _ _ [] this
  · intro j hj u W hu
    obtain ⟨cs,T,hc⟩:=QdU C C 0 (fun j=>by rw [Nat.zero_add]) j (by rw [h.1]; exact hj)
    have:(List.map (Kn.fact w.heap.size) C).getD j (fun _ _=>True)=Kn.fact w.heap.size (.new cs T):=by simp [hc]
    rw [this] at hu
    obtain ⟨g,h1,h2,h3⟩:=hu
    exact ⟨g,h1,QaB h3⟩
  · exact QeF (Q:=fun a W=>wpList P l.toArray Q (l.drop n) a W) _ _ 0 [] L (fun i _=>by rw [h.1]; simp) (QfQ _ _ _ _ _ _ (fun L W hh=>hh.out) (h.2 W (Rely.Ext.trans (Qae w) hR)))
end Go.Proofs.YtdoadngmgmdlbaaDoor.Auto
end
section
namespace Go.Proofs.YtdoadngmgmdlbaaDoor.Auto
open Go Go.RowKit
open Rely
variable {ds : List Deferred} {Fe : Fence} {nf : Nat}
section
variable {P : Program} {ops : Array Oper} {Q : Exit → Act → World → Prop} {rest : List Oper} {o : Oper} {N : Nat} {L : Env} {w : World}
theorem Qd1 (v : Value) (f:FuncId) (args:Array Value) (d:Nat) (hd:o.dst=some d) (hF:Free Fe nf P) (hnd:Qep o=true) (hg:QcJ ops o N L=some true) (h:(execOp (Rely.look (envN N L)) o).run P w=.ok (.enter f args) w)
    (hc:Calls P f args w (Ret w v)) (k:∀ W:World,Ext w W→WLI Fe nf P ops Q rest (Qa5 ds N ((d,v)::L)) W):WLI Fe nf P ops Q (o::rest) (Qa5 ds N L) w :=
  Qpp hF hnd hg fun K hK=>by
    rw [h]
    refine ⟨hF.dp,(hF.calls hc).mono ?_⟩
    rintro e w' ⟨rfl,hw⟩
    show K _ _
    rw [hd,Qc1]
    exact hK _ _ (k _ hw)
end
section
variable {P : Program} {Q : Exit → Act → World → Prop} {w : World} {N : Nat} {L : Env}
theorem QdK {c : Operand} {x y:Code} (hc:Rely.look (envN N L) c=.bool true) (h:x.wpIn Fe nf P Q (Qa5 ds N L) w):(Code.cond c x y).wpIn Fe nf P Q (Qa5 ds N L) w:=wpIn_cond_true (by rw [Qcg]; exact hc) h
theorem Qd0 {c : Operand} {x y:Code} (hc:Rely.look (envN N L) c=.bool false) (h:y.wpIn Fe nf P Q (Qa5 ds N L) w):(Code.cond c x y).wpIn Fe nf P Q (Qa5 ds N L) w:=wpIn_cond_false (by rw [Qcg]; exact hc) h
end
end Go.Proofs.YtdoadngmgmdlbaaDoor.Auto
end
section
namespace Go.Proofs.YtdoadngmgmdlbaaDoor.Auto
open Go Go.RowKit
open Rely
variable {ds : List Deferred}
theorem QeQ {α : Type} {P:Program} {g:Operand} {p:Tmp} {assign body:Code} {Q:Exit→Act→World→Prop} {N:Nat} {L:Env} {w:World}
    {gf:Nat} {lb:Array Value} (hg:Rely.look (envN N L) g=.func (.func gf) #[] lb) (eg:∀ args w,(callFunc gf args).run P w=.ok (.enter gf args) w)
    {enc:α→Value} {Kp:World→World→Prop} {S Sp:List α→Prop} {M:Nat} {w0:World} (hseq:SeqStopsK Fence.wide 2 P gf lb (fun x=>#[enc x]) Kp S Sp M w0)
    (hKt:∀ {A B C:World},Kp A B→Kp B C→Kp A C) (hKb:∀ (W:World) (l:Nat) (o o':Obj),w.heap.size≤l→W.heap[l]? = some o→o.isCells=false→o.isWalk=false→Kp W (W.putObj l o')) (hb0:Below w0.heap.size w0 w)
    (I:List α→World→Prop) (Ix:Code→List α→World→Prop) (hI:OwnFrom w.heap.size I) (hIx:∀ c,OwnFrom w.heap.size (Ix c)) (h0:I [] w) (asg:α→Env)
    (hassign:∀ (l:Nat) (x:α) (W:World) (K:Act→World→Prop),K (Qa5 [] N (asg x++L)) W→assign.wpIn (Fence.wide.inRound l) 1 P (Exit.then K (fun _ _ _=>False)) (Qa5 [] N ((p,enc x)::L)) W)
    (hbody:∀ (l:Nat) (pre:List α) (x:α) (W:World),I pre W→pre.length<M→body.wpIn (Fence.wide.inRound l) 1 P (ownPostK Kp I Ix (pre++[x]) W) (Qa5 [] N (asg x++L)) W)
    (hdone:∀ (D:Nat) (xs:List α) (W:World),w.heap.size≤D→S xs→I xs W→W.heap[D]? = some (.deferred (some []))→Q .normal (Qa5 (mark D::ds) N L) W)
    (hstop:∀ (D:Nat) (c:Code) (pre:List α) (W:World),w.heap.size≤D→Sp pre→Ix c pre W→W.heap[D]? = some (.deferred (some []))→c.wp P Q (Qa5 (mark D::ds) N L) W) :
    (Code.rangeFunc g #[p] assign body).wp P Q (Qa5 ds N L) w:=by
  refine (wpIn_wide (n:=3)).1 <| wpIn_rangeFunc_ownF rfl (by omega) (by rw [Qcg]; exact hg) trivial eg (w0:=w0) hseq hKt hKb hb0 (fun _=>rfl) I Ix hI hIx h0 (fun x=>Qa5 [] N (asg x++L)) (fun l x W K hK=>?_) hbody ?_ ?_
  · rw [Qiv]
    exact hassign l x W K hK
  · intro D xs W h1 h2 h3 h4
    exact hdone D xs W h1 h2 h3 h4
  · intro D c pre W h1 h2 h3 h4
    exact wpIn_wide.2 (hstop D c pre W h1 h2 h3 h4)
theorem Qi5 {W : World} {g D:Nat} {cs:Array Value} {t:TypeId} {b:Option (List Deferred)} (h:W.heap[g]? = some (.cells cs t)) (hD:W.heap[D]? = some (.deferred b)):D≠g:=fun e=>by
  subst e
  rw [h] at hD
  cases hD
section
variable {P : Program} {fn : Func} {R : Ending → World → Prop} {N : Nat} {L : Env} {w : World}
theorem Qow {D : Nat} {r:ResultVar} (v:Value) (hr:fn.results=#[r]) (hD:w.heap[D]? = some (.deferred (some []))) (h:Qgj P (w.putObj D (.deferred none)) N L r v) (k:R (.returned v) (w.putObj D (.deferred none))):bodyPostM Fence.wide 3 P fn R .ret (Qa5 [mark D] N L) w :=
  ⟨by simp,.inl ⟨_,_,rfl,run_takeDeferred hD,⟨_,Qfg hr h,k⟩⟩⟩
end
end Go.Proofs.YtdoadngmgmdlbaaDoor.Auto
end
section
namespace Go.Proofs.YtdoadngmgmdlbaaDoor.Auto
open Go Go.RowKit
open Rely
variable {ds : List Deferred}
theorem Qd2 (n : Nat) (h:n<9223372036854775808):IntKind.i64.wrap ((n:Int)-1)=(n:Int)-1:=IntWalk.i64_in _ (by omega)
theorem Qd3 (n : Nat) (h:n<9223372036854775807):IntKind.i64.wrap ((n:Int)+1)=((n+1:Nat):Int):=by
  rw [show ((n:Int)+1)=((n+1:Nat):Int) by omega]
  exact Ql3 _ (by omega)
end Go.Proofs.YtdoadngmgmdlbaaDoor.Auto
end
end
