/- Texts of this claim, joined (B1). -/
import Derived.Test.YtdoadngmgmdlbaaDoorZB0
import Derived.Test.YtdoadngmgmdlbaaDoorRows
import Derived.Laws.Externs
import Derived.Shelf.Spec.BitsCarry
import Derived.Shelf.Bits.Mul64
import Derived.Laws.Bits64b
import Derived.Laws.BitsAllLaws
import Derived.LoopN
import Derived.WalkKit

set_option linter.unusedVariables false
set_option linter.unusedSimpArgs false
set_option maxHeartbeats 4000000
section
namespace Go.Proofs.YtdoadngmgmdlbaaDoor.Sha5
open Go Go.RowKit
open Rely Auto Own
theorem QdO (s : S8) (t u:List Int):∀ n:Nat,128*n≤t.length→absorb s (t++u) n=absorb s t n
  | 0,_=>rfl
  | n+1,h=>by
    show blk (absorb s (t++u) n) _=blk (absorb s t n) _
    rw [QdO s t u n (by omega)]
    congr 1
    rw [List.drop_append_of_le_length (by omega),List.take_append_of_le_length (by rw [List.length_drop]; omega)]
def HasD (g : Nat) (t:List Int) (W:World):Prop:=∃ b:List Int,b.length=128∧Qak b∧b.take (t.length%128)=t.drop (128*(t.length/128))∧t.length≤1000000000 ∧
  W.heap[g]? = some (.cells (cat [ints .u64 ((absorb S0 t (t.length/128)).l.map wv),ints .u8 b,#[.int .i64 ((t.length:Nat):Int)]]) 128)
theorem HasD.row {g : Nat} {t:List Int} {W W':World} (h:HasD g t W) (e:W'.heap[g]? = W.heap[g]?):HasD g t W':=by
  obtain ⟨b,h1,h2,h3,h4,h5⟩:=h
  exact ⟨b,h1,h2,h3,h4,e.trans h5⟩
theorem HasD.lt {g : Nat} {t:List Int} {W:World} (h:HasD g t W):g<W.heap.size:=by
  obtain ⟨b,h1,h2,h3,h4,h5⟩:=h
  exact Qa6 h5
theorem HasD.ext {g : Nat} {t:List Int} {W W':World} (h:HasD g t W) (e:Ext W W'):HasD g t W':=h.row (e.block g h.lt)
theorem HasD.stable (g : Nat) (t:List Int):QbT Ext (fun _=>HasD g t):=fun _ _ _ hR h=>h.ext hR
def into (b z:List Int) (q n:Nat):List Int:=b.take q++z.take n++b.drop (q+n)
theorem QhS {b z:List Int} {q n:Nat} (hb:b.length=128) (hz:n≤z.length) (hq:q+n≤128):(into b z q n).length=128:=by
  simp only [into,List.length_append,List.length_take,List.length_drop]; omega
theorem Qet {b z:List Int} {q n:Nat} (hb:Qak b) (hz:Qak z):Qak (into b z q n):=fun x hx=>by
  rcases List.mem_append.1 hx with hx | hx
  · rcases List.mem_append.1 hx with hx | hx
    · exact hb x (List.mem_of_mem_take hx)
    · exact hz x (List.mem_of_mem_take hx)
  · exact hb x (List.mem_of_mem_drop hx)
theorem Qg9 {b z t:List Int} {n:Nat} (hb:b.length=128) (hz:n≤z.length) (hp:b.take (t.length%128)=t.drop (128*(t.length/128))):(into b z (t.length%128) n).take (t.length%128+n)=(t++z.take n).drop (128*(t.length/128)):=by
  have e1:(b.take (t.length%128)++z.take n).length=t.length%128+n:=by
    rw [List.length_append,List.length_take,List.length_take]; omega
  unfold into
  rw [←e1,List.take_left,hp,List.drop_append_of_le_length (by omega)]
theorem Qj7 {b z t:List Int} {n:Nat} (hb:b.length=128) (hz:n≤z.length) (hp:b.take (t.length%128)=t.drop (128*(t.length/128))) (hn:t.length%128+n<128) :
    (into b z (t.length%128) n).take ((t++z.take n).length%128)=(t++z.take n).drop (128*((t++z.take n).length/128)):=by
  have hl:(t++z.take n).length=t.length+n:=by rw [List.length_append,List.length_take]; omega
  rw [hl,show (t.length+n)%128=t.length%128+n by omega,show (t.length+n)/128=t.length/128 by omega]
  exact Qg9 hb hz hp
theorem Qj6 {b z t:List Int} {n:Nat} (hb:b.length=128) (hz:n≤z.length) (hp:b.take (t.length%128)=t.drop (128*(t.length/128))) (hn:t.length%128+n=128) :
    blk (absorb S0 t (t.length/128)) (into b z (t.length%128) n)=absorb S0 (t++z.take n) ((t++z.take n).length/128):=by
  have hl:(t++z.take n).length=t.length+n:=by rw [List.length_append,List.length_take]; omega
  rw [hl,show (t.length+n)/128=t.length/128+1 by omega]
  show _=blk (absorb S0 (t++z.take n) (t.length/128)) _
  rw [QdO S0 t _ _ (by omega)]
  have h1:=Qg9 hb hz hp
  rw [hn,List.take_of_length_le (by rw [QhS hb hz (by omega)]; omega)] at h1
  rw [h1,List.take_of_length_le (l:=(t++z.take n).drop (128*(t.length/128))) (by rw [List.length_drop,hl]; omega)]
theorem Qim {z t:List Int} {n:Nat} (hz:n≤z.length) (hn:t.length%128+n<128):absorb S0 (t++z.take n) ((t++z.take n).length/128)=absorb S0 t (t.length/128):=by
  have hl:(t++z.take n).length=t.length+n:=by rw [List.length_append,List.length_take]; omega
  rw [hl,show (t.length+n)/128=t.length/128 by omega,QdO S0 t _ _ (by omega)]
section
variable {ds : List Deferred} {ops : Array Oper} {Q : Exit → Act → World → Prop} {rest : List Oper} {o : Oper} {N : Nat} {L : Env} {W : World}
theorem cat3 (a b c:Array Value):(cat [a,b,c]).toList=a.toList++(b.toList++c.toList):=by
  show (a++(b++c)).toList=_
  simp
theorem Qlf {st b z:List Int} {u:Value} {q n:Nat} (hst:st.length=8) (hb:b.length=128) (hz:n≤z.length) (hq:q+n≤128) :
    ((cat [ints .u64 st,ints .u8 b,#[u]]).toList.take (8+q)++(z.take n).map (Value.int .u8)++(cat [ints .u64 st,ints .u8 b,#[u]]).toList.drop (8+q+n)).toArray=cat [ints .u64 st,ints .u8 (into b z q n),#[u]]:=by
  apply Array.ext'
  rw [cat3,cat3]
  have e1:(ints .u64 st).toList=st.map (Value.int .u64):=rfl
  have e2:∀ b,(ints .u8 b).toList=b.map (Value.int .u8):=fun _=>rfl
  rw [e1,e2,e2]
  have l1:(st.map (Value.int .u64)).length=8:=by simpa using hst
  have l2:(b.map (Value.int .u8)).length=128:=by simpa using hb
  show (st.map (Value.int .u64)++(b.map (Value.int .u8)++[u])).take (8+q)++(z.take n).map (Value.int .u8)++(st.map (Value.int .u64)++(b.map (Value.int .u8)++[u])).drop (8+q+n)=_
  rw [show 8+q+n=8+(q+n) by omega]
  rw [←l1,List.take_length_add_append,List.drop_length_add_append,List.take_append_of_le_length (by omega)]
  rw [List.drop_append_of_le_length (by omega)]
  unfold into
  simp only [List.map_append,List.map_take,List.map_drop,List.append_assoc]
theorem QiX (x y:Operand) (tx ty:TypeId) (d:Nat) (ho:o.op=.call { callee:=.builtin .copy,args:=#[x,y],argTypes:=#[tx,ty] }) (hu:Tryd.prog.underlying tx=some (.slice 5)) (hd:o.dst=some d) (hgd:Qc3 ops o N L=some true)
    {g q n B:Nat} {st b z:List Int} {u v:Value} {T:TypeId} (hst:st.length=8) (hb:b.length=128) (hx:Rely.look (envN N L) x=.slice (some ⟨g,8+q,none⟩) (128-q) (128-q)) (hy:Rely.look (envN N L) y=v) (hr:RdK .u8 B z v W)
    (hg:W.heap[g]? = some (.cells (cat [ints .u64 st,ints .u8 b,#[u]]) T)) (hq:q<128) (hn:n=min z.length (128-q)) (h0:0<z.length)
    (k:∀ W':World,Puts W g W'→W'.heap[g]? = some (.cells (cat [ints .u64 st,ints .u8 (into b z q n),#[u]]) T)→WL Tryd.prog ops Q rest (Qay ds N ((d,.int .i64 ((n:Nat):Int))::L)) W'):WL Tryd.prog ops Q (o::rest) (Qay ds N L) W:=by
  obtain ⟨a,cap,rfl,y2,y3,y4,y5⟩:=hr
  obtain ⟨gz,oz,rfl,z2,z3,z4⟩:=y5.resolve_left (fun e=>by rw [e] at h0; simp at h0)
  have hlen:((z.take n).map (Value.int .u8)).length=n:=by simp; omega
  have hsz:(cat [ints .u64 st,ints .u8 b,#[u]]).size=137:=by
    rw [←Array.length_toList,cat3]; simp [ints]; omega
  have h:=run_copy_row (P:=Tryd.prog) W tx ty o.type 5 g (8+q) (128-q) (128-q) ⟨gz,oz,none⟩ z.length cap (cat [ints .u64 st,ints .u8 b,#[u]]) T ((z.take n).map (Value.int .u8)) hu kj hg (by rw [hlen]; exact hn)
    (Qn3 (k:=.u8) (ys:=z.take n) fun i hi=>by
      rw [List.length_take] at hi
      rw [z4 i (by omega)]
      simp [nth,show i<n by omega]) (by rw [hlen,hsz]; omega) (Qn1 .u8 _)
  rw [hlen,Qlf hst hb (by omega) (by omega)] at h
  refine Qc5 (.int .i64 ((n:Nat):Int)) _ d hd hgd ?_ (k _ (Qcl _ _ _) (setRow_heap _ _ _ _ _ _ hg))
  unfold execOp
  simp only [ho,resolve,invoke,builtin,Sem.run_bind,Sem.run_pure,Result.andThen_ok,List.map_toArray,List.map_cons,List.map_nil,hx,hy,h,goInt]
theorem Qip {P : Program} {ρ:Operand→Value} {k:IntKind} {B:Nat} {ys:List Int} {v:Value} (t:TypeId) (x z:Operand) (l n:Nat) (e:TypeId) (ho:o.op=.slice t x (some z) none none) (hx:ρ x=v) (hv:RdK k B ys v W)
    (hu:P.underlying t=some (.slice e)) (hs:(P.info? e).map (·.size)=some 1) (kz:IntKind) (hz:ρ z=.int kz (l:Int)) (h1:l≤ys.length) (hn:ys.length-l=n) :
    ∃ a c,(execOp ρ o).run P W=.ok (.value (.slice a n c)) W∧RdK k B (ys.drop l) (.slice a n c) W∧(Value.slice a n c).ownBlock=v.ownBlock:=by
  obtain ⟨u,h2,h3,h5⟩:=QfD t x z l e ho hx hv hu hs kz hz h1
  obtain ⟨a,c,rfl,h4⟩:=id h3
  rw [List.length_drop,hn] at h2 h3 h5
  exact ⟨a,c,h2,h3,h5⟩
end
section
variable {ds : List Deferred} {ops : Array Oper} {Q : Exit → Act → World → Prop} {rest : List Oper} {o : Oper} {N : Nat} {L : Env} {W : World}
theorem QfC {P : Program} {k:IntKind} {B:Nat} {ys:List Int} {v:Value} (t:TypeId) (x z:Operand) (l n:Nat) (e:TypeId) (d:Nat) (ho:o.op=.slice t x (some z) none none) (hd:o.dst=some d) (hg:Qc3 ops o N L=some true) (hx:Rely.look (envN N L) x=v) (hv:RdK k B ys v W)
    (hu:P.underlying t=some (.slice e)) (hs:(P.info? e).map (·.size)=some 1) (kz:IntKind) (hz:Rely.look (envN N L) z=.int kz (l:Int)) (h1:l≤ys.length) (hn:ys.length-l=n)
    (kk:∀ a c,RdK k B (ys.drop l) (.slice a n c) W→(Value.slice a n c).ownBlock=v.ownBlock→WL P ops Q rest (Qay ds N ((d,.slice a n c)::L)) W):WL P ops Q (o::rest) (Qay ds N L) W:=by
  obtain ⟨a,c,h2,h3,h4⟩:=Qip (ρ:=Rely.look (envN N L)) t x z l n e ho hx hv hu hs kz hz h1 hn
  exact Qc5 _ _ d hd hg h2 (kk a c h3 h4)
end
theorem Qir {P : Program} {ρ:Operand→Value} {o:Oper} {w:World} (ty:TypeId) (x y:Operand) (g off:Nat) (t:TypeId) (pre post:List (Array Value)) (u v:Value) (hg:w.heap[g]? = some (.cells (cat (pre++([#[u]]++post))) t))
    (ho:o.op=.store ty x y) (hx:ρ x=.pointer (some ⟨g,off,none⟩)) (hy:ρ y=v) (hi:(P.info? ty).map (·.size)=some 1) (hp:(cat pre).size=off) (h1:v.oneCell'=true) (hcs:v.cells=#[v]) :
    (execOp ρ o).run P w=.ok .skip (w.setRow g (cat (pre++([#[v]]++post)))):=by
  subst hp
  have hs:Nat.blt (cat pre).size (cat (pre++([#[u]]++post))).size=true:=by
    have:(cat pre).size<(cat (pre++([#[u]]++post))).size:=by
      rw [QaJ,QaJ,qS,qS]
      have e1:(cat [#[u]]).size=1:=rfl
      omega
    simpa using this
  have e:(cat (pre++([#[u]]++post))).setIfInBounds (cat pre).size v=cat (pre++([#[v]]++post)):=by
    rw [QaJ,QaJ,QaJ,QaJ]
    have e1:∀ z,cat [#[z]]=#[z]:=fun z=>rfl
    rw [e1,e1,Array.setIfInBounds_append_right (qR _),Nat.sub_self,Array.setIfInBounds_append_left (by simp)]
    rfl
  rw [←e]
  exact Qd8 ty x y g _ t _ v hg ho hx hy hi hs h1 hcs
end Go.Proofs.YtdoadngmgmdlbaaDoor.Sha5
end
section
namespace Go.Proofs.YtdoadngmgmdlbaaDoor.Sha5
open Go Go.RowKit
open Rely Auto Own
theorem addC (g B:Nat) (t ys:List Int) (v:Value) (tc:TypeId) (w:World) (hc:w.heap[5]? = some (.cells (ints .u64 QcB) tc)) (hcg:5≠g) (hB:ys=[]∨v.ownBlock≠some g) (hyb:Qak ys) (hlen:t.length+ys.length≤1000000000) (hd:HasD g t w) (hy:RdK .u8 B ys v w) :
  Calls Tryd.prog 79 #[.pointer (some ⟨g,0,none⟩),v] w (fun e W=>e=.returned (.tuple #[])∧ExtB g w W∧HasD g (t++ys) W):=by
 obtain ⟨a0,c0,rfl,-⟩:=id hy
 refine enter 38 [(0,.pointer (some ⟨g,0,none⟩)),(1,.slice a0 ys.length c0)] Tryd.func79 rfl rfl kj rfl ?_
 refine wp_block ?_
 have hyb2:∀ {k:Nat},Qak (ys.drop k):=fun x hx=>hyb x (List.mem_of_mem_drop hx)
 refine QbB (fun (s1:Nat×Option Addr×Nat)=>[(0,.pointer (some ⟨g,0,none⟩)),(1,.slice s1.2.1 (ys.length-s1.1) s1.2.2)]) (fun (s1:Nat×Option Addr×Nat) W=>(s1.1≤ys.length)∧(RdK .u8 B (ys.drop s1.1) (.slice s1.2.1 (ys.length-s1.1) s1.2.2) W)∧(s1.1<ys.length→(Value.slice s1.2.1 (ys.length-s1.1) s1.2.2).ownBlock≠some g)∧(HasD g (t++ys.take s1.1) W)∧(ExtB g w W)) (fun (s1:Nat×Option Addr×Nat)=>ys.length-s1.1) (0,a0,c0) ⟨rfl,rfl,trivial⟩ ⟨(Nat.zero_le _),hy,(fun h=>hB.resolve_left (fun e=>by rw [e] at h; exact absurd h (Nat.lt_irrefl _))),(by simpa using hd),(ExtB.refl g w)⟩ fun s1 X1 V1 hI1=>?_
 obtain ⟨k,a,c⟩:=s1
 obtain ⟨hk,hr,hnb,hD,xx1⟩:=hI1
 replace hk:k≤ys.length:=hk
 replace hr:RdK .u8 B (ys.drop k) (.slice a (ys.length-k) c) V1:=hr
 replace hnb:k<ys.length→(Value.slice a (ys.length-k) c).ownBlock≠some g:=hnb
 replace hD:HasD g (t++ys.take k) V1:=hD
 replace xx1:ExtB g w V1:=xx1
 refine wp_seq_k fun K3 hK3=>?_
 refine wp_seq_k fun K4 hK4=>?_
 refine Qad ?_
 refine Qab (.slice a (ys.length-k) c) 5 rfl kj kj ?_
 refine Qab (.int .i64 ((ys.length-k:Nat):Int)) 6 rfl kj kj ?_
 refine Qab (.bool (decide (((ys.length-k:Nat):Int)>0))) 7 rfl kj kj ?_
 refine Qag ?_
 refine hK4 _ _ ?_
 refine Qbk (t:=decide (((ys.length-k:Nat):Int)>0)) kj (fun c5=>?_) (fun c5=>?_)
 ·skip
  have hk2:k<ys.length:=by have:=of_decide_eq_true c5; omega
  obtain ⟨b,hbl,hbb,hbp,hmany,hrow⟩:=hD
  obtain ⟨t1,ht1⟩:∃ z,z=t++ys.take k:=⟨_,rfl⟩
  rw [←ht1] at hbp hmany hrow
  have hlt1:t1.length=t.length+k:=by rw [ht1,List.length_append,List.length_take]; omega
  obtain ⟨m,hm⟩:∃ z,z=t1.length:=⟨_,rfl⟩
  obtain ⟨s,hs⟩:∃ z,z=absorb S0 t1 (t1.length/128):=⟨_,rfl⟩
  obtain ⟨n,hn⟩:∃ z,z=min (ys.drop k).length (128-m%128):=⟨_,rfl⟩
  have hn0:0<n:=by rw [hn,List.length_drop]; omega
  have hn1:n≤ys.length-k:=by rw [hn,List.length_drop]; omega
  have hn2:n≤128-m%128:=by rw [hn]; omega
  rw [←hs,←hm] at hrow
  replace hrow:V1.heap[g]? = some (.cells (cat [ints .u64 ([wv s.a,wv s.b,wv s.c,wv s.d,wv s.e,wv s.f,wv s.g,wv s.h]),ints .u8 (b),#[.int .i64 ((m:Nat):Int)]]) 128):=hrow
  refine wp_skip ?_
  refine hK3 _ _ ?_
  refine wp_block ?_
  refine wp_seq_k fun K6 hK6=>?_
  refine Qbb 10 [⟨none,[(0,none)]⟩,⟨none,[(8,some 0)]⟩,⟨none,[(9,some 1)]⟩,⟨none,[(0,none)]⟩,⟨none,[(11,some 3)]⟩,⟨none,[(12,some 4)]⟩,⟨none,[(13,some 5)]⟩,⟨none,[(14,some 6)]⟩,⟨none,[(10,some 2),(15,some 7)]⟩,⟨none,[(1,none)]⟩] kj kj fun F hF=>?_
  refine Qbr (QaG _) (.pointer (some ⟨g,0,none⟩)) kj kj (fun W=>kj) ?_
  refine Qbr (QaG _) (.pointer (some ⟨g,0,none⟩)) kj kj (fun W=>kj) ?_
  refine Qbr (QaG _) (.pointer (some ⟨g,8,none⟩)) kj kj (fun W=>kj) ?_
  refine Qbr (QaG _) (.pointer (some ⟨g,0,none⟩)) kj kj (fun W=>kj) ?_
  refine Qbr (QaG _) (.pointer (some ⟨g,0,none⟩)) kj kj (fun W=>kj) ?_
  refine Qbr (QaG _) (.pointer (some ⟨g,136,none⟩)) kj kj (fun W=>kj) ?_
  refine QgI (QaG _) (.int .i64 ((m:Nat):Int)) kj kj (fun W hR=>(Qan 3 _ g 136 128 _ (.int .i64 ((m:Nat):Int)) _ (Qaa (Qaa hrow (Qah _)) hR) rfl kj (QaF [ints .u64 ([wv s.a,wv s.b,wv s.c,wv s.d,wv s.e,wv s.f,wv s.g,wv s.h]),ints .u8 (b)] [#[.int .i64 ((m:Nat):Int)]] [] 136 (by rw [QbW,QbW]; simp only [qS,cat,((Qaf _ _).trans hbl)]; rfl) 0 _ rfl) kj)) ?_
  refine Qbr (QaG _) (.int .i64 ((m%128:Nat):Int)) kj kj (fun W=>(Qax (u:=.int .i64 (Int.tmod (((m:Nat):Int)) (128))) kj (congrArg (Value.int .i64) (QeU _ 128)))) ?_
  refine Qbr (QaG _) (.slice (some ⟨g,8+(m%128),none⟩) (128-(m%128)) (128-(m%128))) kj kj (fun W=>(Qbj 126 _ _ _ (m%128) 128 128 g 8 5 rfl kj kj kj ⟨.i64,kj⟩ rfl (by omega) (by omega) (by omega))) ?_
  refine Qbr (QaG _) (.slice a (ys.length-k) c) kj kj (fun W=>kj) ?_
  refine Qe7 (hF _ fun W2 e2=>?_)
  simp only [List.nil_append,List.cons_append,List.take_succ_cons,List.take_zero,List.drop_succ_cons,List.drop_zero,finE,up]
  clear hF
  have x2:ExtB g w W2:=ExtB.ext xx1 e2
  have r2_2:=(Qaa hrow e2)
  have f7_2:=(hr.ext e2)
  have hbl2:(into b (ys.drop k) (m%128) n).length=128:=QhS hbl (by rw [List.length_drop]; omega) (by omega)
  refine QiX (.tmp 16) (.tmp 17) 27 27 18 rfl kj rfl kj (q:=m%128) (n:=n) (b:=b) rfl hbl kj kj f7_2 r2_2 (by omega) hn (by rw [List.length_drop]; omega) fun W3 p3 r2_3=>?_
  have x3:ExtB g w W3:=ExtB.puts x2 p3
  refine Qab (.int .i64 ((n:Nat):Int)) 4 rfl kj kj ?_
  refine Qag ?_
  refine hK6 _ _ ?_
  refine wp_seq_k fun K8 hK8=>?_
  refine Qad ?_
  refine Qab (.slice a (ys.length-k) c) 19 rfl kj kj ?_
  refine Qab (.int .i64 ((n:Nat):Int)) 20 rfl kj kj ?_
  have f9_3:=(f7_2.putsN p3 (hnb hk2))
  refine QfC 27 (.tmp 19) (.tmp 20) n (ys.length-k-n) 5 21 rfl rfl kj kj f9_3 kj kj .i64 kj (by rw [List.length_drop]; omega) (by rw [List.length_drop]) fun a2 c2 hr2 hob=>?_
  have hnb2:(Value.slice a2 (ys.length-k-n) c2).ownBlock≠some g:=by rw [hob]; exact hnb hk2
  refine Qab (.slice a2 (ys.length-k-n) c2) 1 rfl kj kj ?_
  refine Qag ?_
  refine hK8 _ _ ?_
  refine wp_seq_k fun K10 hK10=>?_
  refine Qad ?_
  refine Qab (.pointer (some ⟨g,0,none⟩)) 22 rfl kj kj ?_
  refine Qab (.pointer (some ⟨g,0,none⟩)) 23 rfl kj kj ?_
  refine Qab (.pointer (some ⟨g,136,none⟩)) 24 rfl kj kj ?_
  refine Qab (.int .i64 ((m:Nat):Int)) 25 rfl kj (Qan 3 _ g 136 128 _ (.int .i64 ((m:Nat):Int)) _ r2_3 rfl kj (QaF [ints .u64 ([wv s.a,wv s.b,wv s.c,wv s.d,wv s.e,wv s.f,wv s.g,wv s.h]),ints .u8 (into b (ys.drop k) (m%128) n)] [#[.int .i64 ((m:Nat):Int)]] [] 136 (by rw [QbW,QbW]; simp only [qS,cat,((Qaf _ _).trans hbl2)]; rfl) 0 _ rfl) kj) ?_
  refine Qab (.int .i64 ((n:Nat):Int)) 26 rfl kj kj ?_
  refine Qab (.int .i64 ((m+n:Nat):Int)) 27 rfl kj (Qax (u:=.int .i64 (IntKind.i64.wrap (((m:Nat):Int)+((n:Nat):Int)))) kj (congrArg (Value.int .i64) (i64n _ _ (by omega) (by omega)))) ?_
  refine Qab (.pointer (some ⟨g,0,none⟩)) 28 rfl kj kj ?_
  refine Qab (.pointer (some ⟨g,136,none⟩)) 29 rfl kj kj ?_
  refine Qal g _ (cat [ints .u64 ([wv s.a,wv s.b,wv s.c,wv s.d,wv s.e,wv s.f,wv s.g,wv s.h]),ints .u8 (into b (ys.drop k) (m%128) n),#[.int .i64 ((m+n:Nat):Int)]]) 128 r2_3 rfl kj (Qir 3 _ _ g 136 128 [ints .u64 ([wv s.a,wv s.b,wv s.c,wv s.d,wv s.e,wv s.f,wv s.g,wv s.h]),ints .u8 (into b (ys.drop k) (m%128) n)] [] _ (.int .i64 ((m+n:Nat):Int)) r2_3 rfl kj kj kj (by rw [QbW,QbW]; simp only [qS,cat,((Qaf _ _).trans hbl2)]; rfl) rfl rfl) fun W4 p4 r2_4=>?_
  have x4:ExtB g w W4:=ExtB.puts x3 p4
  refine Qag ?_
  refine hK10 _ _ ?_
  refine wp_seq_k fun K11 hK11=>?_
  refine Qad ?_
  refine Qab (.pointer (some ⟨g,0,none⟩)) 30 rfl kj kj ?_
  refine Qab (.pointer (some ⟨g,0,none⟩)) 31 rfl kj kj ?_
  refine Qab (.pointer (some ⟨g,136,none⟩)) 32 rfl kj kj ?_
  refine Qab (.int .i64 ((m+n:Nat):Int)) 33 rfl kj (Qan 3 _ g 136 128 _ (.int .i64 ((m+n:Nat):Int)) _ r2_4 rfl kj (QaF [ints .u64 ([wv s.a,wv s.b,wv s.c,wv s.d,wv s.e,wv s.f,wv s.g,wv s.h]),ints .u8 (into b (ys.drop k) (m%128) n)] [#[.int .i64 ((m+n:Nat):Int)]] [] 136 (by rw [QbW,QbW]; simp only [qS,cat,((Qaf _ _).trans hbl2)]; rfl) 0 _ rfl) kj) ?_
  refine Qab (.int .i64 (((m+n)%128:Nat):Int)) 34 rfl kj (Qax (u:=.int .i64 (Int.tmod (((m+n:Nat):Int)) (128))) kj (congrArg (Value.int .i64) (QeU _ 128))) ?_
  refine Qab (.bool (((((m+n)%128:Nat):Int)==0))) 35 rfl kj kj ?_
  refine Qag ?_
  refine hK11 _ _ ?_
  refine Qbk (t:=((((m+n)%128:Nat):Int)==0)) kj (fun c12=>?_) (fun c12=>?_)
  ·skip
   have hmod:(m+n)%128=0:=by have:=c12; have h2:=eq_of_beq this; omega
   refine Qad ?_
   refine Qab (.pointer (some ⟨g,0,none⟩)) 36 rfl kj kj ?_
   have r1_2:=(Qaa (ExtB.row xx1 hc hcg) e2)
   have r1_3:=(Puts.row p3 r1_2 hcg)
   have r1_4:=(Puts.row p4 r1_3 hcg)
   refine Qcd (fun v W'=>v=.tuple #[]∧ExtB g W4 W'∧W'.heap[g]? = some (.cells (cat [ints .u64 ((blk s (into b (ys.drop k) (m%128) n)).l.map wv),ints .u8 (into b (ys.drop k) (m%128) n),#[.int .i64 ((m+n:Nat):Int)]]) 128)) 96 #[.pointer (some ⟨g,0,none⟩)] 37 rfl kj kj ((QnR g s _ hbl2 (Qet hbb hyb2) _ tc _ r1_4 r2_4).mono fun e w' h=>⟨_,h.1,rfl,h.2⟩) fun v W5 h=>?_
   obtain ⟨rfl,q5,r2_5⟩:=h
   have x5:ExtB g w W5:=ExtB.trans x4 q5
   refine Qag ?_
   have f13_4:=(hr2.putsN p4 hnb2)
   have f14_5:=(f13_4.extN q5 hnb2)
   have hr3:RdK .u8 B (ys.drop (k+n)) (.slice a2 (ys.length-(k+n)) c2) W5:=by
    have h:=f14_5
    rw [List.drop_drop,show ys.length-k-n=ys.length-(k+n) by omega] at h
    exact h
   have hlen3:(t1++(ys.drop k).take n).length=m+n:=by rw [List.length_append,List.length_take,List.length_drop]; omega
   have hnb3:(Value.slice a2 (ys.length-(k+n)) c2).ownBlock≠some g:=by rw [show ys.length-(k+n)=ys.length-k-n by omega]; exact hnb2
   have hT:t++ys.take (k+n)=t1++(ys.drop k).take n:=by rw [ht1,List.append_assoc,List.take_add]
   have hzn:n≤(ys.drop k).length:=by rw [List.length_drop]; omega
   have hb0:(into b (ys.drop k) (m%128) n).take ((t++ys.take (k+n)).length%128)=(t++ys.take (k+n)).drop (128*((t++ys.take (k+n)).length/128)):=by
    rw [hT,hlen3,hmod,List.take_zero,List.drop_of_length_le (by omega)]
   have hst:blk s (into b (ys.drop k) (m%128) n)=absorb S0 (t++ys.take (k+n)) ((t++ys.take (k+n)).length/128):=by rw [hT,hs,hm]; exact Qj6 hbl hzn hbp (by omega)
   have hD2:HasD g (t++ys.take (k+n)) W5:=⟨_,hbl2,Qet hbb hyb2,hb0,by rw [hT,hlen3]; omega,by rw [←hst,hT,hlen3]; exact r2_5⟩
   repeat (first | with_reducible refine goX1 ?_ | with_reducible refine goX2 ?_ | with_reducible refine goX3 ?_)
   exact Qb3 (k+n,a2,c2) ⟨rfl,(congrArg (fun z=>Value.slice a2 z c2) (by omega)),trivial⟩ ⟨(by omega),hr3,(fun _=>hnb3),hD2,x5⟩ (by show ys.length-(k+n)<ys.length-k; omega)
  ·skip
   have hmod:¬ (m+n)%128=0:=by have:=c12; intro h0; rw [h0] at this; exact absurd this (by decide)
   refine wp_skip ?_
   have f15_4:=(hr2.putsN p4 hnb2)
   have hr3:RdK .u8 B (ys.drop (k+n)) (.slice a2 (ys.length-(k+n)) c2) W4:=by
    have h:=f15_4
    rw [List.drop_drop,show ys.length-k-n=ys.length-(k+n) by omega] at h
    exact h
   have hlen3:(t1++(ys.drop k).take n).length=m+n:=by rw [List.length_append,List.length_take,List.length_drop]; omega
   have hnb3:(Value.slice a2 (ys.length-(k+n)) c2).ownBlock≠some g:=by rw [show ys.length-(k+n)=ys.length-k-n by omega]; exact hnb2
   have hT:t++ys.take (k+n)=t1++(ys.drop k).take n:=by rw [ht1,List.append_assoc,List.take_add]
   have hzn:n≤(ys.drop k).length:=by rw [List.length_drop]; omega
   have hb0:(into b (ys.drop k) (m%128) n).take ((t++ys.take (k+n)).length%128)=(t++ys.take (k+n)).drop (128*((t++ys.take (k+n)).length/128)):=by
    rw [hT,hm]; exact Qj7 hbl hzn hbp (by omega)
   have hst:s=absorb S0 (t++ys.take (k+n)) ((t++ys.take (k+n)).length/128):=by rw [hT,hs]; exact (Qim hzn (by omega)).symm
   have hD2:HasD g (t++ys.take (k+n)) W4:=⟨_,hbl2,Qet hbb hyb2,hb0,by rw [hT,hlen3]; omega,by rw [←hst,hT,hlen3]; exact r2_4⟩
   repeat (first | with_reducible refine goX1 ?_ | with_reducible refine goX2 ?_ | with_reducible refine goX3 ?_)
   exact Qb3 (k+n,a2,c2) ⟨rfl,(congrArg (fun z=>Value.slice a2 z c2) (by omega)),trivial⟩ ⟨(by omega),hr3,(fun _=>hnb3),hD2,x4⟩ (by show ys.length-(k+n)<ys.length-k; omega)
 ·skip
  have hk2:k=ys.length:=by have:=of_decide_eq_false c5; omega
  refine wp_exit ?_
  repeat (first | with_reducible refine goX1 ?_ | with_reducible refine goX2 ?_ | with_reducible refine goX3 ?_)
  exact (show bodyPost _ _ _ .normal _ _ from end0 rfl ⟨rfl,xx1,by rw [hk2,List.take_length] at hD; exact hD⟩)
end Go.Proofs.YtdoadngmgmdlbaaDoor.Sha5
end
section
namespace Go.Proofs.YtdoadngmgmdlbaaDoor.Sha5
open Go Go.RowKit
open Rely Auto Own
theorem QdJ (n : Nat):Qak (List.replicate n 0):=fun x hx=>by
  have:=List.eq_of_mem_replicate hx
  subst this; decide
theorem QmD (n : Nat):(128-(n+1+16)%128)%128=fillN n:=by unfold fillN; omega
theorem Qnb (n : Nat) (h:n≤1000000000):IntKind.u64.wrap ((n:Nat):Int)=((n:Nat):Int):=by
  have:∀ z:Int,IntKind.u64.wrap z=z%2^64:=fun _=>rfl
  rw [this]; omega
theorem QnP (n : Nat) (h:n≤1000000000):IntKind.u64.wrap (((n:Nat):Int)*2^min (3:Int).toNat IntKind.u64.bits)=((8*n:Nat):Int):=by
  have:∀ z:Int,IntKind.u64.wrap z=z%2^64:=fun _=>rfl
  rw [this,show ((2:Int)^min (3:Int).toNat IntKind.u64.bits)=8 from rfl]; omega
theorem Qnd (n : Nat) (h:n≤1000000000):((n:Nat):Int).fdiv (2^min (61:Int).toNat IntKind.u64.bits)=0:=by
  rw [Int.fdiv_eq_ediv_of_nonneg _ (by decide),show ((2:Int)^min (61:Int).toNat IntKind.u64.bits)=2305843009213693952 from rfl]; omega
theorem Qoj (m : Nat):IntKind.u8.wrap ((m:Nat):Int)=((m%256:Nat):Int):=by
  have:∀ z:Int,IntKind.u8.wrap z=z%2^8:=fun _=>rfl
  rw [this]; omega
theorem QnU (n i:Nat):((8*n/256^i:Nat):Int).fdiv (2^min (8:Int).toNat IntKind.u64.bits)=((8*n/256^(i+1):Nat):Int):=by
  rw [Int.fdiv_eq_ediv_of_nonneg _ (by decide),show ((2:Int)^min (8:Int).toNat IntKind.u64.bits)=256 from rfl,Nat.pow_succ,←Nat.div_div_eq_div_mul]; omega
theorem lowlt (n i:Nat) (h:n≤1000000000):8*n/256^(i+1)<18446744073709551616:=Nat.lt_of_le_of_lt (Nat.div_le_self _ _) (by omega)
theorem or0 (m : Nat) (h:m<18446744073709551616):bits .or .u64 ((m:Nat):Int) 0=((m:Nat):Int):=by
  have:=bits_or_u64_nat m 0 h (by decide)
  rw [Nat.or_zero] at this
  exact this
def be16 (n : Nat):List Int:=List.replicate 8 0++be8 n
def padL (n i:Nat):List Int:=128::(List.replicate (fillN n) 0++(List.replicate (16-i) 0++(be16 (8*n)).drop (16-i)))
theorem Qk2 (n : Nat) {i:Nat} (h:i≤16):(padL n i).length=1+fillN n+16:=by
  have:(be16 (8*n)).length=16:=rfl
  simp [padL,this]; omega
theorem Qgg (n : Nat):(tailP n).length=1+fillN n+16:=by
  have:(be8 (8*n)).length=8:=rfl
  simp [tailP,this]; omega
theorem Qnv (n : Nat):(List.replicate (1+fillN n+16) (0:Int)).set 0 128=padL n 0:=by
  rw [show 1+fillN n+16=(fillN n+16)+1 by omega,List.replicate_succ,List.set_cons_zero,←List.replicate_append_replicate]
  rfl
theorem Qoh (n i:Nat) (hn:n≤1000000000) (h:8≤i):8*n/256^i%256=0:=by
  have h1:256^8≤256^i:=Nat.pow_le_pow_right (by decide) h
  rw [Nat.div_eq_of_lt (qL (show 8*n<256^8 by omega) h1)]
theorem Qk1 (n i:Nat) (hn:n≤1000000000) (h:i<16):(padL n i).set (1+fillN n+16-1-i) ((8*n/256^i%256:Nat):Int)=padL n (i+1):=by
  unfold padL
  rw [show 1+fillN n+16-1-i=(fillN n+(15-i))+1 by omega,List.set_cons_succ,List.set_append_right _ _ (by simp),qZ,Nat.add_sub_cancel_left]
  congr 2
  rcases Nat.lt_or_ge i 8 with q | q
  · match i,q with
    | 0,_=>rfl
    | 1,_=>rfl
    | 2,_=>rfl
    | 3,_=>rfl
    | 4,_=>rfl
    | 5,_=>rfl
    | 6,_=>rfl
    | 7,_=>rfl
  · rw [Qoh n i hn q]
    rcases (show i=8∨i=9∨i=10∨i=11∨i=12∨i=13∨i=14∨i=15 by omega) with rfl | rfl | rfl | rfl | rfl | rfl | rfl | rfl <;> rfl
theorem Qk0 (n : Nat) (hn:n≤1000000000) (w:World):Calls Tryd.prog 97 #[.int .i64 ((n:Nat):Int),.int .i64 128,.int .i64 16] w (QgS w (OwnN .u8 5 w.heap.size (tailP n))):=by
 have hF:fillN n<128:=by unfold fillN; omega
 refine enter 59 [(0,.int .i64 ((n:Nat):Int)),(1,.int .i64 128),(2,.int .i64 16)] Tryd.func97 rfl rfl kj rfl ?_
 refine wp_seq_k fun K1 hK1=>?_
 refine Qad ?_
 refine Qab (.slice none 0 0) 6 rfl kj kj ?_
 refine Qag ?_
 refine hK1 _ _ ?_
 refine wp_seq_k fun K2 hK2=>?_
 refine Qad ?_
 refine Qab (.int .i64 128) 13 rfl kj kj ?_
 refine Qab (.int .i64 ((n:Nat):Int)) 14 rfl kj kj ?_
 refine Qab (.int .i64 ((n+1:Nat):Int)) 15 rfl kj (Qax (u:=.int .i64 (IntKind.i64.wrap (((n:Nat):Int)+1))) kj (congrArg (Value.int .i64) (i64n _ _ (by omega) (by omega)))) ?_
 refine Qab (.int .i64 16) 16 rfl kj kj ?_
 refine Qab (.int .i64 (((n+1)+16:Nat):Int)) 17 rfl kj (Qax (u:=.int .i64 (IntKind.i64.wrap (((n+1:Nat):Int)+16))) kj (congrArg (Value.int .i64) (i64n _ _ (by omega) (by omega)))) ?_
 refine Qab (.int .i64 128) 18 rfl kj kj ?_
 refine Qab (.int .i64 ((((n+1)+16)%128:Nat):Int)) 19 rfl kj (Qax (u:=.int .i64 (Int.tmod ((((n+1)+16:Nat):Int)) (128))) kj (congrArg (Value.int .i64) (QeU _ 128))) ?_
 refine Qab (.int .i64 ((128-(((n+1)+16)%128):Nat):Int)) 20 rfl kj (Qax (u:=.int .i64 (IntKind.i64.wrap (128-((((n+1)+16)%128:Nat):Int)))) kj (congrArg (Value.int .i64) (i64n _ _ (by omega) (by omega)))) ?_
 refine Qab (.int .i64 128) 21 rfl kj kj ?_
 refine Qab (.int .i64 (((fillN n:Nat):Int))) 22 rfl kj (Qax (u:=.int .i64 (Int.tmod (((128-(((n+1)+16)%128):Nat):Int)) (128))) kj (congrArg (Value.int .i64) ((QeU _ 128).trans (congrArg (fun z:Nat=>(z:Int)) (QmD n))))) ?_
 refine Qab (.int .i64 (((fillN n:Nat):Int))) 7 rfl kj kj ?_
 refine Qag ?_
 refine hK2 _ _ ?_
 refine wp_seq_k fun K3 hK3=>?_
 refine Qad ?_
 refine Qab (.int .i64 (((fillN n:Nat):Int))) 23 rfl kj kj ?_
 refine Qab (.int .i64 ((1+(fillN n):Nat):Int)) 24 rfl kj (Qax (u:=.int .i64 (IntKind.i64.wrap (1+(((fillN n:Nat):Int))))) kj (congrArg (Value.int .i64) (i64n _ _ (by omega) (by omega)))) ?_
 refine Qab (.int .i64 16) 25 rfl kj kj ?_
 refine Qab (.int .i64 (((1+(fillN n))+16:Nat):Int)) 26 rfl kj (Qax (u:=.int .i64 (IntKind.i64.wrap (((1+(fillN n):Nat):Int)+16))) kj (congrArg (Value.int .i64) (i64n _ _ (by omega) (by omega)))) ?_
 refine Qbd (ints .u8 (List.replicate ((1+(fillN n))+16) 0)) 5 ((1+(fillN n))+16) 27 rfl kj (Qja 27 _ _ .i64 .i64 ((1+(fillN n))+16) 5 rfl kj kj kj (.inr kj) (by omega)) fun g4 W1 l4 e1 r4_1=>?_
 have x1:Ext w W1:=Ext.tr (Rely.Ext.refl w) e1
 have b4:w.heap.size≤g4:=qT (Rely.Ext.refl w).size l4
 refine Qab (.slice (some ⟨g4,0,none⟩) ((1+(fillN n))+16) ((1+(fillN n))+16)) 8 rfl kj kj ?_
 refine Qag ?_
 refine hK3 _ _ ?_
 refine wp_seq_k fun K5 hK5=>?_
 refine Qad ?_
 refine Qab (.slice (some ⟨g4,0,none⟩) ((1+(fillN n))+16) ((1+(fillN n))+16)) 28 rfl kj kj ?_
 refine Qab (.pointer (some ⟨g4,0,none⟩)) 29 rfl kj (Qd9 27 _ _ .i64 (0) g4 ((1+(fillN n))+16) ((1+(fillN n))+16) 5 rfl kj kj kj kj (by omega)) ?_
 refine Qal g4 _ (ints .u8 ((List.replicate ((1+(fillN n))+16) 0).set 0 128)) 5 r4_1 rfl kj (Qa5 5 _ _ g4 0 5 _ _ r4_1 rfl kj kj kj (Nat.lt_of_lt_of_eq (by omega) (qZ (n:=((1+(fillN n))+16))).symm)) fun W2 p2 r4_2=>?_
 have x2:Ext w W2:=Puts.ext p2 x1 b4
 refine Qag ?_
 refine hK5 _ _ ?_
 refine wp_seq_k fun K6 hK6=>?_
 refine Qad ?_
 refine Qab (.int .i64 ((n:Nat):Int)) 30 rfl kj kj ?_
 refine Qab (.int .u64 (((n:Nat):Int))) 31 rfl kj (Qax (u:=.int .u64 (IntKind.u64.wrap ((n:Nat):Int))) kj (congrArg (Value.int .u64) (Qnb n (by omega)))) ?_
 refine Qab (.int .u64 (((8*n:Nat):Int))) 32 rfl kj (Qbv .shl _ _ _ _ .u64 .u64 _ _ _ rfl kj kj (Qlk _ _ _ _ _ _ (by decide) (QnP n (by omega)))) ?_
 refine Qab (.int .i64 ((n:Nat):Int)) 33 rfl kj kj ?_
 refine Qab (.int .u64 (((n:Nat):Int))) 34 rfl kj (Qax (u:=.int .u64 (IntKind.u64.wrap ((n:Nat):Int))) kj (congrArg (Value.int .u64) (Qnb n (by omega)))) ?_
 refine Qab (.int .u64 (0)) 35 rfl kj (Qbv .shr _ _ _ _ .u64 .u64 _ _ _ rfl kj kj (QdL _ _ _ _ _ _ (by decide) (Qnd n (by omega)))) ?_
 refine Qab (.int .u64 (((8*n:Nat):Int))) 9 rfl kj kj ?_
 refine Qab (.int .u64 (0)) 10 rfl kj kj ?_
 refine Qag ?_
 refine hK6 _ _ ?_
 refine wp_seq_k fun K7 hK7=>?_
 refine wp_seq_k fun K8 hK8=>?_
 refine Qad ?_
 refine Qab (.int .i64 16) 36 rfl kj kj ?_
 refine Qab (.int .i64 0) 37 rfl kj kj ?_
 refine Qag ?_
 refine hK8 _ _ ?_
 refine wp_block ?_
 refine QbB (fun (s1:Nat)=>[(8,.slice (some ⟨g4,0,none⟩) ((1+(fillN n))+16) ((1+(fillN n))+16)),(9,.int .u64 ((8*n/256^s1:Nat):Int)),(10,.int .u64 0),(36,.int .i64 16),(37,.int .i64 ((s1:Nat):Int))]) (fun (s1:Nat) W=>(s1≤16)∧(W.heap[g4]? = some (.cells (ints .u8 (padL n s1)) 5))∧(QaK [g4] W2 W)∧(Ext w W)) (fun (s1:Nat)=>16-s1) 0 ⟨rfl,(congrArg (fun z:Nat=>Value.int .u64 (z:Int)) (Nat.div_one _).symm),rfl,rfl,rfl,trivial⟩ ⟨(Nat.zero_le _),(QaY r4_2 (Qnv n)),(QaK.refl [g4] W2),x2⟩ fun s1 X1 V1 hI1=>?_
 obtain ⟨i,hs1⟩:∃ z,z=s1:=⟨_,rfl⟩
 subst hs1
 obtain ⟨hi,q4_1,kk1,xx1⟩:=hI1
 replace hi:i≤16:=hi
 replace q4_1:V1.heap[g4]? = some (.cells (ints .u8 (padL n i)) 5):=q4_1
 replace kk1:QaK [g4] W2 V1:=kk1
 replace xx1:Ext w V1:=xx1
 have q3:=kk1
 refine wp_seq_k fun K9 hK9=>?_
 refine Qad ?_
 refine Qab (.bool (decide (((i:Nat):Int)<16))) 38 rfl kj kj ?_
 refine Qag ?_
 refine hK9 _ _ ?_
 refine wp_seq_k fun K10 hK10=>?_
 refine Qbk (t:=decide (((i:Nat):Int)<16)) kj (fun c11=>?_) (fun c11=>?_)
 ·skip
  have hlt38:i<16:=by have:=of_decide_eq_true c11; omega
  refine wp_skip ?_
  refine hK10 _ _ ?_
  refine wp_seq_k fun K12 hK12=>?_
  refine wp_block ?_
  refine wp_seq_k fun K13 hK13=>?_
  refine Qad ?_
  refine Qab (.int .i64 ((i:Nat):Int)) 39 rfl kj kj ?_
  refine Qab (.int .i64 ((i:Nat):Int)) 11 rfl kj kj ?_
  refine Qag ?_
  refine hK13 _ _ ?_
  refine wp_seq_k fun K14 hK14=>?_
  refine Qad ?_
  refine Qab (.int .u64 ((8*n/256^i:Nat):Int)) 40 rfl kj kj ?_
  refine Qab (.int .u8 (((8*n/256^i%256:Nat):Int))) 41 rfl kj (Qax (u:=.int .u8 (IntKind.u8.wrap ((8*n/256^i:Nat):Int))) kj (congrArg (Value.int .u8) (Qoj _))) ?_
  refine Qab (.int .u8 (((8*n/256^i%256:Nat):Int))) 12 rfl kj kj ?_
  refine Qag ?_
  refine hK14 _ _ ?_
  refine wp_seq_k fun K15 hK15=>?_
  refine Qad ?_
  refine Qab (.slice (some ⟨g4,0,none⟩) ((1+(fillN n))+16) ((1+(fillN n))+16)) 42 rfl kj kj ?_
  refine Qab (.slice (some ⟨g4,0,none⟩) ((1+(fillN n))+16) ((1+(fillN n))+16)) 43 rfl kj kj ?_
  refine Qab (.int .i64 (((1+(fillN n))+16:Nat):Int)) 44 rfl kj kj ?_
  refine Qab (.int .i64 ((((1+(fillN n))+16)-1:Nat):Int)) 45 rfl kj (Qax (u:=.int .i64 (IntKind.i64.wrap ((((1+(fillN n))+16:Nat):Int)-1))) kj (congrArg (Value.int .i64) (i64n _ _ (by omega) (by omega)))) ?_
  refine Qab (.int .i64 ((i:Nat):Int)) 46 rfl kj kj ?_
  refine Qab (.int .i64 (((((1+(fillN n))+16)-1)-i:Nat):Int)) 47 rfl kj (Qax (u:=.int .i64 (IntKind.i64.wrap (((((1+(fillN n))+16)-1:Nat):Int)-((i:Nat):Int)))) kj (congrArg (Value.int .i64) (i64n _ _ (by omega) (by omega)))) ?_
  refine Qab (.int .u8 (((8*n/256^i%256:Nat):Int))) 48 rfl kj kj ?_
  refine Qab (.pointer (some ⟨g4,((((1+(fillN n))+16)-1)-i),none⟩)) 49 rfl kj (Qd9 27 _ _ .i64 ((((1+(fillN n))+16)-1)-i) g4 ((1+(fillN n))+16) ((1+(fillN n))+16) 5 rfl kj kj kj kj (by omega)) ?_
  refine Qal g4 _ (ints .u8 ((padL n i).set ((((1+(fillN n))+16)-1)-i) (((8*n/256^i%256:Nat):Int)))) 5 q4_1 rfl kj (Qa5 5 _ _ g4 ((((1+(fillN n))+16)-1)-i) 5 _ _ q4_1 rfl kj kj kj (Nat.lt_of_lt_of_eq (by omega) (Qk2 n (by omega)).symm)) fun W4 p4 r4_4=>?_
  have x4:Ext w W4:=Puts.ext p4 xx1 b4
  refine Qag ?_
  refine hK15 _ _ ?_
  refine wp_seq_k fun K16 hK16=>?_
  refine Qad ?_
  refine Qab (.int .u64 ((8*n/256^i:Nat):Int)) 50 rfl kj kj ?_
  refine Qab (.int .u64 (((8*n/256^(i+1):Nat):Int))) 51 rfl kj (Qbv .shr _ _ _ _ .u64 .u64 _ _ _ rfl kj kj (QdL _ _ _ _ _ _ (by decide) (QnU n i))) ?_
  refine Qab (.int .u64 0) 52 rfl kj kj ?_
  refine Qab (.int .u64 (0)) 53 rfl kj (Qbv .shl _ _ _ _ .u64 .u64 _ _ _ rfl kj kj (Qlk _ _ _ _ _ _ (by decide) (show IntKind.u64.wrap (0*2^min (56:Int).toNat IntKind.u64.bits)=0 from rfl))) ?_
  refine Qab (.int .u64 (((8*n/256^(i+1):Nat):Int))) 54 rfl kj (Qax (u:=.int .u64 (bits .or .u64 (((8*n/256^(i+1):Nat):Int)) (0))) kj (congrArg (Value.int .u64) (or0 _ (lowlt n i (by omega))))) ?_
  refine Qab (.int .u64 (((8*n/256^(i+1):Nat):Int))) 9 rfl kj kj ?_
  refine Qag ?_
  refine hK16 _ _ ?_
  refine Qad ?_
  refine Qab (.int .u64 0) 55 rfl kj kj ?_
  refine Qab (.int .u64 (0)) 56 rfl kj (Qbv .shr _ _ _ _ .u64 .u64 _ _ _ rfl kj kj (QdL _ _ _ _ _ _ (by decide) (show Int.fdiv 0 (2^min (8:Int).toNat IntKind.u64.bits)=0 from rfl))) ?_
  refine Qab (.int .u64 (0)) 10 rfl kj kj ?_
  refine Qag ?_
  refine hK12 _ _ ?_
  refine Qad ?_
  refine Qab (.int .i64 ((i+1:Nat):Int)) 57 rfl kj (Qax (u:=.int .i64 (IntKind.i64.wrap (((i:Nat):Int)+1))) kj (congrArg (Value.int .i64) (i64n _ _ (by omega) (by omega)))) ?_
  refine Qab (.int .i64 ((i+1:Nat):Int)) 37 rfl kj kj ?_
  refine Qag ?_
  repeat (first | with_reducible refine goX1 ?_ | with_reducible refine goX2 ?_ | with_reducible refine goX3 ?_)
  exact Qb3 (i+1) ⟨rfl,rfl,rfl,rfl,rfl,trivial⟩ ⟨(by omega),(QaY r4_4 (Qk1 n i (by omega) hlt38)),(QaK.puts q3 p4 (.inl (by simp))),x4⟩ (by omega)
 ·skip
  have heq38:i=16:=by have:=of_decide_eq_false c11; omega
  have r4_3_17:V1.heap[g4]? = some (.cells (ints .u8 (tailP n)) 5):=QaY q4_1 (by rw [heq38]; rfl)
  refine wp_exit ?_
  refine hK7 _ _ ?_
  refine wp_seq_k fun K18 hK18=>?_
  refine Qad ?_
  refine Qab (.slice (some ⟨g4,0,none⟩) ((1+(fillN n))+16) ((1+(fillN n))+16)) 58 rfl kj kj ?_
  refine Qab (.slice (some ⟨g4,0,none⟩) ((1+(fillN n))+16) ((1+(fillN n))+16)) 6 rfl kj kj ?_
  refine Qag ?_
  refine hK18 _ _ ?_
  refine wp_ret ?_
  repeat (first | with_reducible refine goR1 ?_ | with_reducible refine goR2 ?_)
  exact (show bodyPost _ _ _ .ret _ _ from ret1 (.slice (some ⟨g4,0,none⟩) ((1+(fillN n))+16) ((1+(fillN n))+16)) rfl (Qb6 kj) ⟨_,rfl,xx1,Qk5 (Qgg n) b4 r4_3_17 (by simp only [maxLen]; omega)⟩)
end Go.Proofs.YtdoadngmgmdlbaaDoor.Sha5
end
section
namespace Go.Proofs.YtdoadngmgmdlbaaDoor.Sha5
open Go Go.RowKit
open Rely Auto Own
theorem newC (tq : TypeId) (w:World) (hq:w.heap[4]? = some (.cells (ints .u64 Qb9) tq)):Calls Tryd.prog 78 #[] w (QgS w (fun v W=>∃ g,v=.pointer (some ⟨g,0,none⟩)∧w.heap.size≤g∧HasD g [] W)):=by
  refine enter 4 [] Tryd.func78 rfl rfl kj rfl ?_
  refine wp_seq_k fun K2 hK2=>?_
  refine Qad ?_
  refine Qab (.pointer none) 0 rfl kj kj ?_
  refine Qag ?_
  refine hK2 _ _ ?_
  refine wp_seq_k fun K3 hK3=>?_
  refine Qad ?_
  refine Qab (.agg (ints .u64 (Qb9))) 1 rfl kj (Qae 85 _ 4 tq _ _ hq rfl kj kj (isz (n:=8) kj ((Qaf _ _).trans (show Qb9.length=8 from rfl)))) ?_
  refine Qab (.agg (cat [ints .u64 (Qb9),ints .u8 (List.replicate 128 0),#[.int .i64 0]])) 2 rfl kj kj ?_
  refine Qaj (cat [ints .u64 (Qb9),ints .u8 (List.replicate 128 0),#[.int .i64 0]]) 128 3 rfl kj kj fun g4 W1 l4 e1 r4_1=>?_
  have x1:Ext w W1:=Ext.tr (Rely.Ext.refl w) e1
  have b4:w.heap.size≤g4:=qT (Rely.Ext.refl w).size l4
  refine Qab (.pointer (some ⟨g4,0,none⟩)) 0 rfl kj kj ?_
  refine Qag ?_
  refine hK3 _ _ ?_
  refine wp_ret ?_
  repeat (first | with_reducible refine goR1 ?_ | with_reducible refine goR2 ?_)
  exact (show bodyPost _ _ _ .ret _ _ from ret1 (.pointer (some ⟨g4,0,none⟩)) rfl (Qb6 kj) ⟨_,rfl,x1,_,rfl,b4,List.replicate 128 0,qZ,QdJ 128,rfl,Nat.zero_le _,(by have h9:=r4_1; rw [show Qb9=S0.l.map wv by decide +kernel] at h9; exact h9)⟩)
end Go.Proofs.YtdoadngmgmdlbaaDoor.Sha5
end
section
namespace Go.Proofs.YtdoadngmgmdlbaaDoor.Sha5
open Go Go.RowKit
open Rely Auto Own
theorem QmV (x : Int):IntKind.u8.wrap x=x%256:=by
  have:IntKind.u8.wrap x=x%2^8:=rfl
  rw [this]; rfl
theorem QmY (x : Wd) (n:Nat):IntKind.u8.wrap (wv (x>>>n))=((x.toNat/2^n%256:Nat):Int):=by
  rw [QmV]; unfold wv; rw [BitVec.toNat_ushiftRight,Nat.shiftRight_eq_div_pow]; omega
theorem Qk6 (s : S8) {a b:Nat} (ha:a<8) (hb:b<8):IntKind.u8.wrap (wv (wget s.l a>>>(56-8*b)))=nth s.out (8*a+b):=by
  rcases (show b=0∨b=1∨b=2∨b=3∨b=4∨b=5∨b=6∨b=7 by omega) with rfl | rfl | rfl | rfl | rfl | rfl | rfl | rfl <;> rcases (show a=0∨a=1∨a=2∨a=3∨a=4∨a=5∨a=6∨a=7 by omega) with rfl | rfl | rfl | rfl | rfl | rfl | rfl | rfl <;> exact QmY _ _
theorem QgZ (n : Nat):Qak (tailP n):=fun x hx=>by
  unfold tailP at hx
  rcases List.mem_cons.1 hx with h | h
  · omega
  · rcases List.mem_append.1 h with h | h
    · exact QdJ _ x h
    · rcases List.mem_append.1 h with h | h
      · exact QdJ _ x h
      · simp only [be8,List.mem_cons,List.not_mem_nil,or_false] at h
        rcases h with h | h | h | h | h | h | h | h <;> omega
set_option maxHeartbeats 8000000 in
theorem sumC (g : Nat) (t:List Int) (tc:TypeId) (w:World) (hc:w.heap[5]? = some (.cells (ints .u64 QcB) tc)) (hcg:5≠g) (hlen:t.length≤900000000) (hd:HasD g t w):Calls Tryd.prog 80 #[.pointer (some ⟨g,0,none⟩)] w (fun e W=>e=.returned (.agg (ints .u8 (dig t)))∧ExtB g w W):=by
 obtain ⟨b,hbl,hbb,hbp,hmany,hrow⟩:=hd
 obtain ⟨s,hs⟩:∃ z,z=absorb S0 t (t.length/128):=⟨_,rfl⟩
 rw [←hs] at hrow
 replace hrow:w.heap[g]? = some (.cells (cat [ints .u64 ([wv s.a,wv s.b,wv s.c,wv s.d,wv s.e,wv s.f,wv s.g,wv s.h]),ints .u8 (b),#[.int .i64 ((t.length:Nat):Int)]]) 128):=hrow
 refine enter 39 [(0,.pointer (some ⟨g,0,none⟩))] Tryd.func80 rfl rfl kj rfl ?_
 refine wp_seq_k fun K3 hK3=>?_
 refine Qad ?_
 refine Qaj (ints .u8 (List.replicate 64 0)) 30 2 rfl kj kj fun g4 W1 l4 e1 r4_1=>?_
 have x1:ExtB g w W1:=ExtB.ext (ExtB.refl g w) e1
 have b4:w.heap.size≤g4:=qT (ExtB.refl g w).size l4
 refine Qag ?_
 refine hK3 _ _ ?_
 refine wp_seq_k fun K5 hK5=>?_
 refine Qad ?_
 refine Qab (.pointer (some ⟨g,0,none⟩)) 7 rfl kj kj ?_
 refine Qab (.pointer (some ⟨g,0,none⟩)) 8 rfl kj kj ?_
 refine Qab (.pointer (some ⟨g,0,none⟩)) 9 rfl kj kj ?_
 refine Qab (.pointer (some ⟨g,136,none⟩)) 10 rfl kj kj ?_
 have r2_1:=(Qaa hrow e1)
 refine Qab (.int .i64 ((t.length:Nat):Int)) 11 rfl kj (Qan 3 _ g 136 128 _ (.int .i64 ((t.length:Nat):Int)) _ r2_1 rfl kj (QaF [ints .u64 ([wv s.a,wv s.b,wv s.c,wv s.d,wv s.e,wv s.f,wv s.g,wv s.h]),ints .u8 (b)] [#[.int .i64 ((t.length:Nat):Int)]] [] 136 (by rw [QbW,QbW]; simp only [qS,cat,((Qaf _ _).trans hbl)]; rfl) 0 _ rfl) kj) ?_
 refine Qcd (fun v W'=>(OwnN .u8 5 W1.heap.size (tailP t.length)) v W'∧Ext W1 W') 97 #[.int .i64 ((t.length:Nat):Int),.int .i64 128,.int .i64 16] 12 rfl kj kj ((Qk0 t.length (by omega) _).mono (by rintro e w' ⟨v,rfl,e1,hv⟩; exact ⟨v,rfl,hv,e1⟩)) fun vv6 W2 hh6=>?_
 obtain ⟨hv6,e2⟩:=hh6
 have x2:ExtB g w W2:=ExtB.ext x1 e2
 have r2_2:=(Qaa r2_1 e2)
 have r1_1:=(Qaa hc e1)
 have r1_2:=(Qaa r1_1 e2)
 have hd4:HasD g t W2:=⟨b,hbl,hbb,hbp,hmany,by rw [←hs]; exact r2_2⟩
 have hp4:=hv6
 have hfl:fillN t.length<128:=by unfold fillN; omega
 have hpl:t.length+(tailP t.length).length≤1000000000:=by rw [Qgg]; omega
 refine Qcd (fun v W'=>v=.tuple #[]∧ExtB g W2 W'∧HasD g (t++tailP t.length) W') 79 #[.pointer (some ⟨g,0,none⟩),vv6] 13 rfl kj kj ((addC g _ t (tailP t.length) _ tc _ r1_2 hcg (.inr (hp4.nb (Qa6 r2_1))) (QgZ _) hpl hd4 (OwnN.rd hp4)).mono fun e w' h=>⟨_,h.1,rfl,h.2⟩) fun v W3 h=>?_
 obtain ⟨rfl,q3,hD5⟩:=h
 have x3:ExtB g w W3:=ExtB.trans x2 q3
 obtain ⟨b5,hbl5,hbb5,-,-,hrow5⟩:=hD5
 obtain ⟨s5,hs5⟩:∃ z,z=absorb S0 (padT t) ((padT t).length/128):=⟨_,rfl⟩
 rw [show t++tailP t.length=padT t from rfl,←hs5] at hrow5
 replace hrow5:W3.heap[g]? = some (.cells (cat [ints .u64 ([wv s5.a,wv s5.b,wv s5.c,wv s5.d,wv s5.e,wv s5.f,wv s5.g,wv s5.h]),ints .u8 (b5),#[.int .i64 (((padT t).length:Nat):Int)]]) 128):=hrow5
 refine Qag ?_
 refine hK5 _ _ ?_
 refine wp_seq_k fun K7 hK7=>?_
 refine Qad ?_
 refine Qaj (ints .u8 (List.replicate 64 0)) 30 3 rfl kj kj fun g8 W4 l8 e4 r8_4=>?_
 have x4:ExtB g w W4:=ExtB.ext x3 e4
 have b8:w.heap.size≤g8:=qT x3.size l8
 refine Qag ?_
 refine hK7 _ _ ?_
 refine wp_seq_k fun K9 hK9=>?_
 refine wp_seq_k fun K10 hK10=>?_
 refine Qad ?_
 refine Qab (.pointer (some ⟨g,0,none⟩)) 14 rfl kj kj ?_
 refine Qab (.pointer (some ⟨g,0,none⟩)) 15 rfl kj kj ?_
 refine Qab (.pointer (some ⟨g,0,none⟩)) 16 rfl kj kj ?_
 have r2_4:=(Qaa hrow5 e4)
 refine Qab (.agg (ints .u64 ([wv s5.a,wv s5.b,wv s5.c,wv s5.d,wv s5.e,wv s5.f,wv s5.g,wv s5.h]))) 17 rfl kj (Qaz 85 _ g 0 128 _ _ _ r2_4 rfl kj (QaF [] [ints .u64 ([wv s5.a,wv s5.b,wv s5.c,wv s5.d,wv s5.e,wv s5.f,wv s5.g,wv s5.h])] [ints .u8 (b5),#[.int .i64 (((padT t).length:Nat):Int)]] 0 kj) kj (isz (n:=8) kj kj)) ?_
 refine Qab (.int .i64 0) 18 rfl kj kj ?_
 refine Qag ?_
 refine hK10 _ _ ?_
 refine wp_block ?_
 refine QbB (fun (s1:Nat)=>[(2,.pointer (some ⟨g4,0,none⟩)),(3,.pointer (some ⟨g8,0,none⟩)),(17,.agg (ints .u64 ([wv s5.a,wv s5.b,wv s5.c,wv s5.d,wv s5.e,wv s5.f,wv s5.g,wv s5.h]))),(18,.int .i64 ((s1:Nat):Int))]) (fun (s1:Nat) W=>(s1≤8)∧(W.heap[g8]? = some (.cells (ints .u8 (fill s5.out 64 (8*s1))) 30))∧(QaK [g8] W4 W)∧(ExtB g w W)) (fun (s1:Nat)=>8-s1) 0 ⟨rfl,rfl,rfl,rfl,trivial⟩ ⟨(Nat.zero_le _),(QaY r8_4 (fill_zero s5.out 64).symm),(QaK.refl [g8] W4),x4⟩ fun s1 X1 V1 hI1=>?_
 obtain ⟨i,hs1⟩:∃ z,z=s1:=⟨_,rfl⟩
 subst hs1
 obtain ⟨hi,q8_1,kk1,xx1⟩:=hI1
 replace hi:i≤8:=hi
 replace q8_1:V1.heap[g8]? = some (.cells (ints .u8 (fill s5.out 64 (8*i))) 30):=q8_1
 replace kk1:QaK [g8] W4 V1:=kk1
 replace xx1:ExtB g w V1:=xx1
 have q5:=kk1
 refine wp_seq_k fun K11 hK11=>?_
 refine Qad ?_
 refine Qab (.bool (decide (((i:Nat):Int)<8))) 19 rfl kj kj ?_
 refine Qag ?_
 refine hK11 _ _ ?_
 refine wp_seq_k fun K12 hK12=>?_
 refine Qbk (t:=decide (((i:Nat):Int)<8)) kj (fun c13=>?_) (fun c13=>?_)
 ·skip
  have hlt19:i<8:=by have:=of_decide_eq_true c13; omega
  refine wp_skip ?_
  refine hK12 _ _ ?_
  refine wp_seq_k fun K14 hK14=>?_
  refine wp_block ?_
  refine wp_seq_k fun K15 hK15=>?_
  refine Qad ?_
  refine Qab (.int .i64 ((i:Nat):Int)) 20 rfl kj kj ?_
  refine Qab (.int .u64 (wv (wget s5.l i))) 21 rfl kj (run_index_il 85 _ _ .i64 .u64 ([wv s5.a,wv s5.b,wv s5.c,wv s5.d,wv s5.e,wv s5.f,wv s5.g,wv s5.h]) i 8 46 (wv (wget s5.l i)) rfl kj kj kj kj kj rfl (by omega) (show nth (s5.l.map wv) i=_ from nth_map _ _)) ?_
  refine Qab (.int .i64 ((i:Nat):Int)) 4 rfl kj kj ?_
  refine Qab (.int .u64 (wv (wget s5.l i))) 5 rfl kj kj ?_
  refine Qag ?_
  refine hK15 _ _ ?_
  refine wp_seq_k fun K16 hK16=>?_
  refine Qad ?_
  refine Qab (.int .i64 0) 22 rfl kj kj ?_
  refine Qag ?_
  refine hK16 _ _ ?_
  refine wp_block ?_
  refine QbB (fun (s2:Nat)=>[(2,.pointer (some ⟨g4,0,none⟩)),(3,.pointer (some ⟨g8,0,none⟩)),(4,.int .i64 ((i:Nat):Int)),(5,.int .u64 (wv (wget s5.l i))),(17,.agg (ints .u64 ([wv s5.a,wv s5.b,wv s5.c,wv s5.d,wv s5.e,wv s5.f,wv s5.g,wv s5.h]))),(18,.int .i64 ((i:Nat):Int)),(22,.int .i64 ((s2:Nat):Int))]) (fun (s2:Nat) W=>(s2≤8)∧(W.heap[g8]? = some (.cells (ints .u8 (fill s5.out 64 (8*i+s2))) 30))∧(QaK [g8] V1 W)∧(ExtB g w W)) (fun (s2:Nat)=>8-s2) 0 ⟨rfl,rfl,rfl,rfl,rfl,rfl,rfl,trivial⟩ ⟨(Nat.zero_le _),(QaY q8_1 (show _=fill s5.out 64 (8*i+0) from rfl)),(QaK.refl [g8] V1),xx1⟩ fun s2 X2 V2 hI2=>?_
  obtain ⟨j,hs2⟩:∃ z,z=s2:=⟨_,rfl⟩
  subst hs2
  obtain ⟨hj,q8_2,kk2,xx2⟩:=hI2
  replace hj:j≤8:=hj
  replace q8_2:V2.heap[g8]? = some (.cells (ints .u8 (fill s5.out 64 (8*i+j))) 30):=q8_2
  replace kk2:QaK [g8] V1 V2:=kk2
  replace xx2:ExtB g w V2:=xx2
  have q6:=kk2
  refine wp_seq_k fun K17 hK17=>?_
  refine Qad ?_
  refine Qab (.bool (decide (((j:Nat):Int)<8))) 23 rfl kj kj ?_
  refine Qag ?_
  refine hK17 _ _ ?_
  refine wp_seq_k fun K18 hK18=>?_
  refine Qbk (t:=decide (((j:Nat):Int)<8)) kj (fun c19=>?_) (fun c19=>?_)
  ·skip
   have hlt23:j<8:=by have:=of_decide_eq_true c19; omega
   refine wp_skip ?_
   refine hK18 _ _ ?_
   refine wp_seq_k fun K20 hK20=>?_
   refine wp_block ?_
   refine wp_seq_k fun K21 hK21=>?_
   refine Qad ?_
   refine Qab (.int .i64 ((j:Nat):Int)) 24 rfl kj kj ?_
   refine Qab (.int .i64 ((j:Nat):Int)) 6 rfl kj kj ?_
   refine Qag ?_
   refine hK21 _ _ ?_
   refine Qad ?_
   refine Qab (.int .i64 ((i:Nat):Int)) 25 rfl kj kj ?_
   refine Qab (.int .i64 ((8*i:Nat):Int)) 26 rfl kj (Qax (u:=.int .i64 (IntKind.i64.wrap (8*((i:Nat):Int)))) kj (congrArg (Value.int .i64) (i64n _ _ (by omega) (by omega)))) ?_
   refine Qab (.int .i64 ((j:Nat):Int)) 27 rfl kj kj ?_
   refine Qab (.int .i64 (((8*i)+j:Nat):Int)) 28 rfl kj (Qax (u:=.int .i64 (IntKind.i64.wrap (((8*i:Nat):Int)+((j:Nat):Int)))) kj (congrArg (Value.int .i64) (i64n _ _ (by omega) (by omega)))) ?_
   refine Qab (.int .u64 (wv (wget s5.l i))) 29 rfl kj kj ?_
   refine Qab (.int .i64 ((j:Nat):Int)) 30 rfl kj kj ?_
   refine Qab (.int .i64 ((8*j:Nat):Int)) 31 rfl kj (Qax (u:=.int .i64 (IntKind.i64.wrap (8*((j:Nat):Int)))) kj (congrArg (Value.int .i64) (i64n _ _ (by omega) (by omega)))) ?_
   refine Qab (.int .i64 (((56-8*j:Nat):Int))) 32 rfl kj (Qax (u:=.int .i64 (IntKind.i64.wrap (56-((8*j:Nat):Int)))) kj (congrArg (Value.int .i64) (i64n _ _ (by omega) (by omega)))) ?_
   refine Qab (.int .u64 (wv (wget s5.l i>>>(56-8*j)))) 33 rfl kj (Qbv .shr _ _ _ _ .u64 .i64 _ _ _ rfl kj kj (QdL _ _ _ _ _ _ (by omega) (w_shr _ _ (56-8*j) rfl (by omega)))) ?_
   refine Qab (.int .u8 (nth s5.out (8*i+j))) 34 rfl kj (Qax (u:=.int .u8 (IntKind.u8.wrap (wv (wget s5.l i>>>(56-8*j))))) kj (congrArg (Value.int .u8) (Qk6 s5 hlt19 hlt23))) ?_
   refine Qab (.pointer (some ⟨g8,(8*i)+j,none⟩)) 35 rfl kj (Qbu _ _ _ .i64 ((8*i)+j) _ 64 5 rfl kj kj kj kj (by omega)) ?_
   refine Qal g8 _ (ints .u8 ((fill s5.out 64 (8*i+j)).set ((8*i)+j) (nth s5.out (8*i+j)))) 30 q8_2 rfl kj (Qa5 5 _ _ g8 ((8*i)+j) 30 _ _ q8_2 rfl kj kj kj (Nat.lt_of_lt_of_eq (by omega) (fill_len (show s5.out.length=64 from rfl) (by omega)).symm)) fun W7 p7 r8_7=>?_
   have x7:ExtB g w W7:=ExtB.putsN xx2 p7 b8
   refine Qag ?_
   refine hK20 _ _ ?_
   refine Qad ?_
   refine Qab (.int .i64 ((j+1:Nat):Int)) 36 rfl kj (Qax (u:=.int .i64 (IntKind.i64.wrap (((j:Nat):Int)+1))) kj (congrArg (Value.int .i64) (i64n _ _ (by omega) (by omega)))) ?_
   refine Qab (.int .i64 ((j+1:Nat):Int)) 22 rfl kj kj ?_
   refine Qag ?_
   repeat (first | with_reducible refine goX1 ?_ | with_reducible refine goX2 ?_ | with_reducible refine goX3 ?_)
   exact Qb3 (j+1) ⟨rfl,rfl,rfl,rfl,rfl,rfl,rfl,trivial⟩ ⟨(by omega),(QaY r8_7 (fill_set (show s5.out.length=64 from rfl) (by omega))),(QaK.puts q6 p7 (.inl (by simp))),x7⟩ (by show 8-(j+1)<8-j; omega)
  ·skip
   have heq23:j=8:=by have:=of_decide_eq_false c19; omega
   have r8_6_22:V2.heap[g8]? = some (.cells (ints .u8 (fill s5.out 64 (8*(i+1)))) 30):=QaY q8_2 (by rw [heq23]; rfl)
   refine wp_exit ?_
   refine hK14 _ _ ?_
   refine Qad ?_
   refine Qab (.int .i64 ((i+1:Nat):Int)) 37 rfl kj (Qax (u:=.int .i64 (IntKind.i64.wrap (((i:Nat):Int)+1))) kj (congrArg (Value.int .i64) (i64n _ _ (by omega) (by omega)))) ?_
   refine Qab (.int .i64 ((i+1:Nat):Int)) 18 rfl kj kj ?_
   refine Qag ?_
   repeat (first | with_reducible refine goX1 ?_ | with_reducible refine goX2 ?_ | with_reducible refine goX3 ?_)
   exact Qb3 (i+1) ⟨rfl,rfl,rfl,rfl,trivial⟩ ⟨(by omega),r8_6_22,(QaK.keeps q5 q6 (Qjz (.inl (by simp)) Qlz)),xx2⟩ (by show 8-(i+1)<8-i; omega)
 ·skip
  have heq19:i=8:=by have:=of_decide_eq_false c13; omega
  have r8_5_23:V1.heap[g8]? = some (.cells (ints .u8 (s5.out)) 30):=QaY q8_1 (by rw [heq19]; exact fill_full (show s5.out.length=64 from rfl))
  refine wp_exit ?_
  refine hK9 _ _ ?_
  refine wp_seq_k fun K24 hK24=>?_
  refine Qad ?_
  refine Qab (.agg (ints .u8 (s5.out))) 38 rfl kj (Qae 30 _ g8 30 _ _ r8_5_23 rfl kj kj (isz (n:=64) kj ((Qaf _ _).trans (show s5.out.length=64 from rfl)))) ?_
  have r4_2:=(Qaa r4_1 e2)
  have r4_3:=(ExtB.row q3 r4_2 (Qat hrow l4))
  have r4_4:=(Qaa r4_3 e4)
  have r4_5:=(QaK.row q5 r4_4 (QcU (Qac r4_3 l8) Qec))
  refine Qal g4 _ (ints .u8 (s5.out)) 30 r4_5 rfl kj (Qai 30 _ _ g4 30 _ _ r4_5 rfl kj kj (isz (n:=64) kj ((Qaf _ _).trans (show s5.out.length=64 from rfl))) (eqsz (n:=64) ((Qaf _ _).trans (qZ (n:=64))) ((Qaf _ _).trans (show s5.out.length=64 from rfl))) (ints_one _ _)) fun W6 p6 r4_6=>?_
  have x6:ExtB g w W6:=ExtB.putsN xx1 p6 b4
  refine Qag ?_
  refine hK24 _ _ ?_
  refine wp_ret ?_
  repeat (first | with_reducible refine goR1 ?_ | with_reducible refine goR2 ?_)
  exact (show bodyPost _ _ _ .ret _ _ from ret1 (.agg (ints .u8 (s5.out))) rfl (Qa9 g4 30 _ r4_6 kj kj (isz (n:=64) kj ((Qaf _ _).trans (show s5.out.length=64 from rfl)))) ⟨by rw [show dig t=s5.out by rw [hs5]; rfl],x6⟩)
end Go.Proofs.YtdoadngmgmdlbaaDoor.Sha5
end
section
namespace Go.Proofs.YtdoadngmgmdlbaaDoor.Sha5
open Go Go.RowKit
open Rely Auto Own
def pat (ps : List (Value×List Int)) (i:Nat):Value×List Int:=ps.getD i (undef,[])
def flat (ps : List (Value×List Int)) (i:Nat):List Int:=((ps.take i).map Prod.snd).flatten
theorem Qgy {ps : List (Value×List Int)} {i:Nat} (h:i<ps.length):pat ps i=ps[i]:=by simp [pat,h]
theorem Qjp {ps : List (Value×List Int)} {i:Nat} (h:i<ps.length):pat ps i∈ps:=by rw [Qgy h]; exact List.getElem_mem h
theorem Qno {ps : List (Value×List Int)} {i:Nat} (h:i<ps.length):(ps.map Prod.fst).toArray[i]? = some (pat ps i).1:=by
  rw [Qgy h]; simp [h]
theorem QgE {ps : List (Value×List Int)} {i:Nat} (h:i<ps.length):flat ps (i+1)=flat ps i++(pat ps i).2:=by
  unfold flat
  rw [List.take_add_one,List.getElem?_eq_getElem h,Qgy h,List.map_append,List.flatten_append]
  show _++[ps[i].2].flatten=_
  rw [List.flatten_singleton]
theorem QgF {ps : List (Value×List Int)} {n:Nat} (h:ps.length=n):flat ps n=(ps.map Prod.snd).flatten:=by
  subst h; simp [flat]
theorem QmB {ps : List (Value×List Int)} {i:Nat} (h:i<ps.length):(flat ps i).length+(pat ps i).2.length≤((ps.map Prod.snd).flatten).length:=by
  have e:(flat ps (i+1)).length=(flat ps i).length+(pat ps i).2.length:=by rw [QgE h,List.length_append]
  rw [←e]
  have:(ps.map Prod.snd).flatten=flat ps (i+1)++((ps.drop (i+1)).map Prod.snd).flatten:=by
    unfold flat
    rw [←List.flatten_append,←List.map_append,List.take_append_drop]
  rw [this,List.length_append]; omega
theorem Qml (s : S8):s.out.length=64:=rfl
theorem dig_len (t : List Int):(dig t).length=64:=Qml _
theorem Qmz (gp n c:Nat) (cs:Array Value) (Tp:TypeId) (ps:List (Value×List Int)) (hn:ps.length=n) (hn9:n≤1000000) (tc tq:TypeId) (w:World) (hc:w.heap[5]? = some (.cells (ints .u64 QcB) tc)) (hq:w.heap[4]? = some (.cells (ints .u64 Qb9) tq)) (hrow:w.heap[gp]? = some (.cells cs Tp)) (hcs:∀ i,i<ps.length→cs[i]? = some (pat ps i).1) (hps:∀ p∈ps,RdK .u8 w.heap.size p.2 p.1 w∧Qak p.2) (hlen:((ps.map Prod.snd).flatten).length≤900000000):Calls Tryd.prog 41 #[.slice (some ⟨gp,0,none⟩) n c] w (Ret w (.agg (ints .u8 (dig ((ps.map Prod.snd).flatten))))):=by
 refine enter 19 [(0,.slice (some ⟨gp,0,none⟩) n c)] Tryd.func41 rfl rfl kj rfl ?_
 refine wp_seq_k fun K4 hK4=>?_
 refine Qad ?_
 refine Qaj (ints .u8 (List.replicate 64 0)) 30 2 rfl kj kj fun g5 W1 l5 e1 r5_1=>?_
 have x1:Ext w W1:=Ext.tr (Rely.Ext.refl w) e1
 have b5:w.heap.size≤g5:=qT (Rely.Ext.refl w).size l5
 refine Qag ?_
 refine hK4 _ _ ?_
 refine wp_seq_k fun K6 hK6=>?_
 refine Qad ?_
 have r2_1:=(Qaa hq e1)
 refine Qcd (fun v W'=>(fun v W=>∃ g,v=.pointer (some ⟨g,0,none⟩)∧W1.heap.size≤g∧HasD g [] W) v W'∧Ext W1 W') 78 #[] 6 rfl kj kj ((newC tq _ r2_1).mono (by rintro e w' ⟨v,rfl,e1,hv⟩; exact ⟨v,rfl,hv,e1⟩)) fun vv7 W2 hh7=>?_
 obtain ⟨hv7,e2⟩:=hh7
 have x2:Ext w W2:=Ext.tr x1 e2
 obtain ⟨gd8,rfl,ld8,hD8⟩:=hv7
 have b8:w.heap.size≤gd8:=qT x1.size ld8
 refine Qab (.pointer (some ⟨gd8,0,none⟩)) 3 rfl kj kj ?_
 refine Qag ?_
 refine hK6 _ _ ?_
 refine wp_seq_k fun K9 hK9=>?_
 refine wp_seq_k fun K10 hK10=>?_
 refine Qad ?_
 refine Qab (.slice (some ⟨gp,0,none⟩) n c) 7 rfl kj kj ?_
 refine Qab (.int .i64 ((n:Nat):Int)) 8 rfl kj kj ?_
 refine Qab (.int .i64 0) 9 rfl kj kj ?_
 refine Qag ?_
 refine hK10 _ _ ?_
 refine wp_block ?_
 refine QbB (fun (s1:Nat)=>[(7,.slice (some ⟨gp,0,none⟩) n c),(8,.int .i64 ((n:Nat):Int)),(9,.int .i64 ((s1:Nat):Int)),(3,.pointer (some ⟨gd8,0,none⟩)),(2,.pointer (some ⟨g5,0,none⟩))]) (fun (s1:Nat) W=>(s1≤n)∧(HasD gd8 (flat ps s1) W)∧(QaK [gd8] W2 W)∧(Ext w W)) (fun (s1:Nat)=>n-s1) 0 ⟨rfl,rfl,rfl,rfl,rfl,trivial⟩ ⟨(Nat.zero_le _),(show HasD _ (flat ps 0) _ from hD8),(QaK.refl [gd8] W2),x2⟩ fun s1 X1 V1 hI1=>?_
 obtain ⟨i,hs1⟩:∃ z,z=s1:=⟨_,rfl⟩
 subst hs1
 obtain ⟨hi,hDi,kk1,xx1⟩:=hI1
 replace hi:i≤n:=hi
 replace hDi:HasD gd8 (flat ps i) V1:=hDi
 replace kk1:QaK [gd8] W2 V1:=kk1
 replace xx1:Ext w V1:=xx1
 have q3:=kk1
 refine wp_seq_k fun K11 hK11=>?_
 refine Qad ?_
 refine Qab (.bool (decide (((i:Nat):Int)<((n:Nat):Int)))) 10 rfl kj kj ?_
 refine Qag ?_
 refine hK11 _ _ ?_
 refine wp_seq_k fun K12 hK12=>?_
 refine Qbk (t:=decide (((i:Nat):Int)<((n:Nat):Int))) kj (fun c13=>?_) (fun c13=>?_)
 ·skip
  have hlt10:i<n:=by have:=of_decide_eq_true c13; omega
  refine wp_skip ?_
  refine hK12 _ _ ?_
  refine wp_seq_k fun K14 hK14=>?_
  refine wp_block ?_
  refine wp_seq_k fun K15 hK15=>?_
  refine Qad ?_
  have hi2:i<ps.length:=by omega
  refine Qab (.pointer (some ⟨gp,i,none⟩)) 11 rfl kj (Qd9 63 _ _ .i64 i gp n c 27 rfl kj kj kj kj hlt10) ?_
  have r3_1:=(Qaa hrow e1)
  have r3_2:=(Qaa r3_1 e2)
  have r3_3:=(QaK.row q3 r3_2 (QcU (Qac r3_1 ld8) Qec))
  refine Qab ((pat ps i).1) 12 rfl kj (Qgo 27 _ _ ((pat ps i).1) (QaE r3_3 (hcs i hi2)) rfl kj kj) ?_
  refine Qab ((pat ps i).1) 5 rfl kj kj ?_
  refine Qag ?_
  refine hK15 _ _ ?_
  refine Qad ?_
  refine Qab (.pointer (some ⟨gd8,0,none⟩)) 13 rfl kj kj ?_
  refine Qab ((pat ps i).1) 14 rfl kj kj ?_
  have r1_1:=(Qaa hc e1)
  have r1_2:=(Qaa r1_1 e2)
  have r1_3:=(QaK.row q3 r1_2 (QcU (Qac r1_1 ld8) Qec))
  have hp6:=(hps _ (Qjp hi2)).1.ext xx1
  have hl6:=QmB hi2
  refine Qcd (fun v W'=>v=.tuple #[]∧ExtB gd8 V1 W'∧HasD gd8 ((flat ps i)++(pat ps i).2) W') 79 #[.pointer (some ⟨gd8,0,none⟩),(pat ps i).1] 15 rfl kj kj ((addC gd8 _ _ _ _ tc _ r1_3 (Nat.ne_of_lt (qL (Qa6 hc) b8)) (hp6.nb b8) (hps _ (Qjp hi2)).2 (by omega) hDi hp6).mono fun e w' h=>⟨_,h.1,rfl,h.2⟩) fun v W4 h=>?_
  obtain ⟨rfl,q4,hDn⟩:=h
  have x4:Ext w W4:=ExtB.up xx1 q4 b8
  refine Qag ?_
  refine hK14 _ _ ?_
  refine Qad ?_
  refine Qab (.int .i64 ((i+1:Nat):Int)) 16 rfl kj (Qax (u:=.int .i64 (IntKind.i64.wrap (((i:Nat):Int)+1))) kj (congrArg (Value.int .i64) (i64n _ _ (by omega) (by omega)))) ?_
  refine Qab (.int .i64 ((i+1:Nat):Int)) 9 rfl kj kj ?_
  refine Qag ?_
  repeat (first | with_reducible refine goX1 ?_ | with_reducible refine goX2 ?_ | with_reducible refine goX3 ?_)
  exact Qb3 (i+1) ⟨rfl,rfl,rfl,rfl,rfl,trivial⟩ ⟨(by omega),(by rw [QgE hi2]; exact hDn),(QaK.but q3 q4 (.inl (by simp))),x4⟩ (by omega)
 ·skip
  have heq10:i=n:=by have:=of_decide_eq_false c13; omega
  refine wp_exit ?_
  refine hK9 _ _ ?_
  refine wp_seq_k fun K16 hK16=>?_
  refine Qad ?_
  refine Qab (.pointer (some ⟨gd8,0,none⟩)) 17 rfl kj kj ?_
  have r1_1:=(Qaa hc e1)
  have r1_2:=(Qaa r1_1 e2)
  have r1_3:=(QaK.row q3 r1_2 (QcU (Qac r1_1 ld8) Qec))
  refine Qcd (fun v W'=>v=(.agg (ints .u8 (dig (flat ps i))))∧ExtB gd8 V1 W') 80 #[.pointer (some ⟨gd8,0,none⟩)] 18 rfl kj kj ((sumC gd8 _ tc _ r1_3 (Nat.ne_of_lt (qL (Qa6 hc) b8)) (by rw [heq10,QgF hn]; exact hlen) hDi).mono fun e w' h=>⟨_,h.1,rfl,h.2⟩) fun v W4 h=>?_
  obtain ⟨rfl,q4⟩:=h
  have x4:Ext w W4:=ExtB.up xx1 q4 b8
  have r5_2:=(Qaa r5_1 e2)
  have r5_3:=(QaK.row q3 r5_2 (QcU (Qac r5_1 ld8) Qec))
  have r5_4:=(ExtB.row q4 r5_3 (Qac r5_1 ld8))
  refine Qal g5 _ (ints .u8 (dig (flat ps i))) 30 r5_4 rfl kj (Qai 30 _ _ g5 30 _ _ r5_4 rfl kj kj (isz (n:=64) kj ((Qaf _ _).trans (dig_len _))) (eqsz (n:=64) ((Qaf _ _).trans (qZ (n:=64))) ((Qaf _ _).trans (dig_len _))) (ints_one _ _)) fun W5 p5 r5_5=>?_
  have x5:Ext w W5:=Puts.ext p5 x4 b5
  refine Qag ?_
  refine hK16 _ _ ?_
  refine wp_ret ?_
  repeat (first | with_reducible refine goR1 ?_ | with_reducible refine goR2 ?_)
  exact (show bodyPost _ _ _ .ret _ _ from ret1 (.agg (ints .u8 (dig (flat ps i)))) rfl (Qa9 g5 30 _ r5_5 kj kj (isz (n:=64) kj ((Qaf _ _).trans (dig_len _)))) ⟨by rw [heq10,QgF hn],x5⟩)
theorem Qoe (gp n:Nat) (Tp:TypeId) (ps:List (Value×List Int)) (hn:ps.length=n) (hn9:n≤1000000) (tc tq:TypeId) (w:World) (hc:w.heap[5]? = some (.cells (ints .u64 QcB) tc)) (hq:w.heap[4]? = some (.cells (ints .u64 Qb9) tq)) (hrow:w.heap[gp]? = some (.cells (ps.map Prod.fst).toArray Tp)) (hps:∀ p∈ps,RdK .u8 w.heap.size p.2 p.1 w∧Qak p.2) (hlen:((ps.map Prod.snd).flatten).length≤900000000):Calls Tryd.prog 41 #[.slice (some ⟨gp,0,none⟩) n n] w (Ret w (.agg (ints .u8 (dig ((ps.map Prod.snd).flatten))))) :=
  Qmz gp n n _ Tp ps hn hn9 tc tq w hc hq hrow (fun i h=>Qno h) hps hlen
end Go.Proofs.YtdoadngmgmdlbaaDoor.Sha5
end
section
namespace Go.Proofs.YtdoadngmgmdlbaaDoor.Sha5
open Go Go.RowKit
open Rely Auto Own
section
variable {P : Program} {ρ : Operand → Value} {o : Oper} {w : World}
end
section
variable {ds : List Deferred} {P : Program} {ops : Array Oper} {Q : Exit → Act → World → Prop} {rest : List Oper} {o : Oper} {N : Nat} {L : Env} {W : World}
end
end Go.Proofs.YtdoadngmgmdlbaaDoor.Sha5
end
section
namespace Go.Proofs.YtdoadngmgmdlbaaDoor.Sha5
open Go Go.RowKit
open Rely Auto Own
end Go.Proofs.YtdoadngmgmdlbaaDoor.Sha5
end
section
namespace Go.Proofs.YtdoadngmgmdlbaaDoor.Sha5
open Go Go.RowKit
open Rely Auto Own
theorem Qca {ds : List Int} (h:ds.length=64):(ds.take 32).length=32:=by rw [List.length_take,h]; rfl
theorem QbH {ds : List Int} (h:ds.length=64):(ds.drop 32).length=32:=by rw [List.length_drop,h]
end Go.Proofs.YtdoadngmgmdlbaaDoor.Sha5
end
section
namespace Go.Proofs.YtdoadngmgmdlbaaDoor.Ladder
open Go Go.RowKit
open Rely
def clamp (xs : List Int):List Int:=(xs.set 0 (nth xs 0/8*8)).set 31 (nth xs 31%64+64)
theorem QnK : ∀ a:Fin 256,bits .and .u8 (a.val:Int) 248=(a.val:Int)/8*8:=by decide +kernel
theorem Qob : ∀ a:Fin 256,bits .or .u8 (bits .and .u8 (a.val:Int) 127) 64=(a.val:Int)%64+64:=by decide +kernel
theorem QmP (a : Int) (h:0≤a∧a≤255):bits .and .u8 a 248=a/8*8:=by
  have:=QnK ⟨a.toNat,by omega⟩
  simpa [Int.toNat_of_nonneg h.1] using this
theorem Qn0 (a : Int) (h:0≤a∧a≤255):bits .or .u8 (bits .and .u8 a 127) 64=a%64+64:=by
  have:=Qob ⟨a.toNat,by omega⟩
  simpa [Int.toNat_of_nonneg h.1] using this
theorem infoKey : (Tryd.prog.info? 23).map (·.size)=some 32:=kj
theorem QiG (w : World) (a b:Obj):((w.alloc a).alloc b).heap[w.heap.size]? = some a:=by
  rw [Below.heap_alloc _ _ _ (by simp)]
  exact heap_alloc_new w a
theorem Qf3 (w : World) (a b:Obj):((w.alloc a).alloc b).heap[w.heap.size+1]? = some b:=by
  have:=heap_alloc_new (w.alloc a) b
  simpa using this
theorem ints_one (k : IntKind) (xs:List Int):(ints k xs).all (·.oneCell')=true:=by simp [ints,Value.oneCell']
theorem below_setRow {B : Nat} {a w:World} (h:Below B a w) {g:Nat} (hp:B≤g) (cs:Array Value):Below B a (w.setRow g cs) :=
  ⟨h.os,h.tape,h.output,by simpa using h.size,fun k hk=>(setRow_other w g k cs (by omega)).trans (h.block k hk)⟩
theorem nth_set_ne (l : List Int) (i j:Nat) (v:Int) (h:i≠j):nth (l.set i v) j=nth l j:=by simp [nth,h]
theorem clampC (xs : List Int) (hl:xs.length=32) (hb:Qak xs) (w:World) :
    Calls Tryd.prog 42 #[.agg (ints .u8 xs)] w (Ret w (.agg (ints .u8 (clamp xs)))):=by
  have a0:=QmP _ (hb.nth 0)
  have a31:=Qn0 _ (hb.nth 31)
  have e0:(ints .u8 xs)[0]? = some (.int .u8 (nth xs 0)):=Qaw _ _ _ (by omega)
  have hi:∀ (ys:List Int),ys.length=32→(Tryd.prog.info? 23).map (·.size)=some (ints .u8 ys).size:=fun ys h=>by rw [infoKey,Qaf,h]
  have hset:∀ (ys:List Int) (i:Nat) (v:Int),(ints .u8 ys).setIfInBounds i (.int .u8 v)=ints .u8 (ys.set i v):=fun ys i v=>QbA _ _ _ _
  have e31:(ints .u8 (xs.set 0 (nth xs 0/8*8)))[31]? = some (.int .u8 (nth xs 31)):=by rw [Qaw _ _ _ (by simp; omega),nth_set_ne _ _ _ _ (by decide)]
  have HE0:=Lib.hid e0
  go_enter Tryd.func42,Tryd.ntmps42
  go_wp2_with first
    | (with_reducible show wpList _ _ _ ((⟨_,.load 23 _,_,_,_,_⟩:Oper)::_) _ _
       refine wpList_load_row rfl 23 _ rfl w.heap.size rfl 23 (ints .u8 (clamp xs)) (0,0) _ (QiG _ _ _) Tryd.underlying23 rfl (hi _ (by simp [clamp,hl])) ?_)
    | (with_reducible show wpList _ _ _ ((⟨_,.store 23 _ _,_,_,_,_⟩:Oper)::_) _ _
       refine wpList_store_row rfl 23 _ _ rfl (w.heap.size+1) (ints .u8 (clamp xs)) rfl rfl 23 _ (Qf3 _ _ _) (hi _ (by simp [clamp,hl])) (by simp [ints,clamp,hl]) (ints_one _ _) ?_)
  refine bodyPost_ret (v:=.agg (ints .u8 (clamp xs))) (results_cell_row (p:=2) rfl _ _ (w.heap.size+1) 23 (ints .u8 (clamp xs)) (0,0) _ rfl (setRow_heap _ _ _ _ _ _ (Qf3 _ _ _)) Tryd.underlying23 rfl (hi _ (by simp [clamp,hl]))) rfl ⟨rfl,?_⟩
  exact below_setRow (((Below.refl _ _).alloc (qR _) _).alloc (by simp) _) (by omega) _
theorem wrap_u8 (a : Int) (h:0≤a) (h2:a<256):IntKind.u8.wrap a=a:=by
  have e:IntKind.u8.bits=8:=rfl
  have f:IntKind.u8.signed=false:=rfl
  simp [IntKind.wrap,e,f]
  omega
end Go.Proofs.YtdoadngmgmdlbaaDoor.Ladder
end
section
namespace Go.Proofs.YtdoadngmgmdlbaaDoor.Sha5
open Go Go.RowKit
open Rely Auto Own
section
variable {ds : List Deferred} {P : Program} {ops : Array Oper} {Q : Exit → Act → World → Prop} {rest : List Oper} {o : Oper} {N : Nat} {L : Env} {W : World}
theorem QbN {k : IntKind} {e:TypeId} (x y:Operand) (tx ty:TypeId) (d:Nat) (ho:o.op=.call { callee:=.builtin .copy,args:=#[x,y],argTypes:=#[tx,ty] }) (hu:P.underlying tx=some (.slice e)) (hsz:(P.info? e).map (·.size)=some 1) (hd:o.dst=some d) (hgd:Qc3 ops o N L=some true)
    {g off dl dc n B:Nat} {xs z:List Int} {v:Value} {T:TypeId} (hx:Rely.look (envN N L) x=.slice (some ⟨g,off,none⟩) dl dc) (hy:Rely.look (envN N L) y=v) (hr:RdK k B z v W)
    (hg:W.heap[g]? = some (.cells (ints k xs) T)) (hq:off+dl≤xs.length) (hn:n=min z.length dl)
    (kk:∀ W':World,Puts W g W'→W'.heap[g]? = some (.cells (ints k (xs.take off++z.take n++xs.drop (off+n))) T)→WL P ops Q rest (Qay ds N ((d,.int .i64 ((n:Nat):Int))::L)) W'):WL P ops Q (o::rest) (Qay ds N L) W:=by
  obtain ⟨a,cap,rfl,y2,y3,y4,y5⟩:=hr
  have hgo:∀ W',(Builtin.copy_ #[tx,ty] o.type #[.slice (some ⟨g,off,none⟩) dl dc,.slice a z.length cap]).run P W=.ok (goInt n) W'→(execOp (Rely.look (envN N L)) o).run P W=.ok (.value (.int .i64 ((n:Nat):Int))) W':=fun W' h=>by
    unfold execOp
    simp only [ho,resolve,invoke,builtin,Sem.run_bind,Sem.run_pure,Result.andThen_ok,List.map_toArray,List.map_cons,List.map_nil,hx,hy,h,goInt]
  rcases Nat.eq_zero_or_pos n with h0 | h0
  · refine Qc5 _ _ d hd hgd (hgo W ?_) (kk W ⟨rfl,rfl,rfl,rfl,fun _ _=>rfl⟩ ?_)
    · rw [h0]; exact run_copy_none W tx ty o.type e _ _ _ _ _ _ hu hsz (hn.symm.trans h0)
    · rw [h0,List.take_zero,List.append_nil,Nat.add_zero,List.take_append_drop]; exact hg
  · obtain ⟨gz,oz,rfl,z2,z3,z4⟩:=y5.resolve_left (fun e=>by rw [e] at hn; simp at hn; omega)
    have hlen:((z.take n).map (Value.int k)).length=n:=by simp; omega
    have h:=run_copy_row (P:=P) W tx ty o.type e g off dl dc ⟨gz,oz,none⟩ z.length cap (ints k xs) T ((z.take n).map (Value.int k)) hu hsz hg (by rw [hlen]; exact hn)
      (Qn3 (k:=k) (ys:=z.take n) fun i hi=>by
        rw [List.length_take] at hi
        rw [z4 i (by omega)]
        simp [nth,show i<n by omega]) (by rw [hlen,Qaf]; omega) (Qn1 k _)
    rw [hlen] at h
    have e1:((ints k xs).toList.take off++(z.take n).map (Value.int k)++(ints k xs).toList.drop (off+n)).toArray=ints k (xs.take off++z.take n++xs.drop (off+n)):=by
      apply Array.ext'
      show (xs.map (Value.int k)).take off++(z.take n).map (Value.int k)++(xs.map (Value.int k)).drop (off+n)=(xs.take off++z.take n++xs.drop (off+n)).map (Value.int k)
      simp only [List.map_append,List.map_take,List.map_drop]
    rw [e1] at h
    exact Qc5 _ _ d hd hgd (hgo _ h) (kk _ (Qcl _ _ _) (setRow_heap _ _ _ _ _ _ hg))
end
theorem QcC {z : List Int} (h:z.length=32):(List.replicate 32 (0:Int)).take 0++z.take 32++(List.replicate 32 (0:Int)).drop (0+32)=z:=by
  rw [List.take_zero,List.nil_append,List.take_of_length_le (by omega),List.drop_of_length_le (by simp),List.append_nil]
end Go.Proofs.YtdoadngmgmdlbaaDoor.Sha5
end
section
namespace Go.Proofs.YtdoadngmgmdlbaaDoor.Sha5
open Go Go.RowKit
open Rely Auto Own
open Ladder (clamp)
theorem QiN (x : Wd):Qak (wby x):=fun y hy=>by
  unfold wby at hy
  obtain ⟨k,_,rfl⟩:=List.mem_map.1 hy
  omega
theorem dig_bytes (t : List Int):Qak (dig t):=fun y hy=>by
  unfold dig S8.out at hy
  obtain ⟨x,_,h⟩:=List.mem_flatMap.1 hy
  exact QiN x y h
theorem QfA {xs : List Int} (h:Qak xs):Qak (xs.take 32):=fun x hx=>h x (List.mem_of_mem_take hx)
theorem Qek {xs : List Int} (hx:xs.length=32):(clamp xs).length=32:=by simp [clamp,hx]
theorem Qms (xs : List Int) (a b:Nat):nth (xs.drop a) b=nth xs (a+b):=by
  unfold nth
  rw [List.getD_eq_getElem?_getD,List.getD_eq_getElem?_getD,List.getElem?_drop]
theorem Qmr (xs : List Int) (a b:Nat) (h:b<a):nth (xs.take a) b=nth xs b:=by
  unfold nth
  rw [List.getD_eq_getElem?_getD,List.getD_eq_getElem?_getD,List.getElem?_take,if_pos h]
theorem Qdi {k : IntKind} {T:TypeId} {g n l h:Nat} {xs:List Int} {W:World} (hn:xs.length=n) (r:W.heap[g]? = some (.cells (ints k xs) T)) (h1:l≤h) (h2:h≤n) (h3:n≤maxLen):RdK k W.heap.size ((xs.drop l).take (h-l)) (.slice (some ⟨g,l,none⟩) (h-l) (n-l)) W :=
  QdA l (by rw [List.length_take,List.length_drop]; omega) r (fun i hi=>by rw [Qmr _ _ _ hi,Qms]; exact Qaw k xs (l+i) (by omega)) (Qa6 r) (by omega) (by omega)
theorem Qng (xs : List Int) (hx:xs.length=32) (hb:Qak xs) (tc tq:TypeId) (w:World) (hc:w.heap[5]? = some (.cells (ints .u64 QcB) tc)) (hq:w.heap[4]? = some (.cells (ints .u64 Qb9) tq)):Calls Tryd.prog 19 #[.agg (ints .u8 xs)] w (Ret w (.tuple #[.agg (ints .u8 (clamp ((dig xs).take 32))),.agg (ints .u8 ((dig xs).drop 32))])):=by
  refine enter 17 [(0,.agg (ints .u8 (xs)))] Tryd.func19 rfl rfl kj rfl ?_
  refine wp_seq_k fun K3 hK3=>?_
  refine Qad ?_
  refine Qaj (ints .u8 (xs)) 23 1 rfl kj kj fun g4 W1 l4 e1 r4_1=>?_
  have x1:Ext w W1:=Ext.tr (Rely.Ext.refl w) e1
  have b4:w.heap.size≤g4:=qT (Rely.Ext.refl w).size l4
  refine Qaj (ints .u8 (List.replicate 32 0)) 23 2 rfl kj kj fun g5 W2 l5 e2 r5_2=>?_
  have x2:Ext w W2:=Ext.tr x1 e2
  have b5:w.heap.size≤g5:=qT x1.size l5
  refine Qaj (ints .u8 (List.replicate 32 0)) 23 3 rfl kj kj fun g6 W3 l6 e3 r6_3=>?_
  have x3:Ext w W3:=Ext.tr x2 e3
  have b6:w.heap.size≤g6:=qT x2.size l6
  refine Qag ?_
  refine hK3 _ _ ?_
  refine wp_seq_k fun K7 hK7=>?_
  refine Qad ?_
  refine Qab (.slice (some ⟨g4,0,none⟩) 32 32) 5 rfl kj kj ?_
  refine Qbd (#[.slice (some ⟨g4,0,none⟩) 32 32]) 27 1 6 rfl kj kj fun g8 W4 l8 e4 r8_4=>?_
  have x4:Ext w W4:=Ext.tr x3 e4
  have b8:w.heap.size≤g8:=qT x3.size l8
  have r4_2:=(Qaa r4_1 e2)
  have r4_3:=(Qaa r4_2 e3)
  have r4_4:=(Qaa r4_3 e4)
  have r1_1:=(Qaa hc e1)
  have r1_2:=(Qaa r1_1 e2)
  have r1_3:=(Qaa r1_2 e3)
  have r1_4:=(Qaa r1_3 e4)
  have r2_1:=(Qaa hq e1)
  have r2_2:=(Qaa r2_1 e2)
  have r2_3:=(Qaa r2_2 e3)
  have r2_4:=(Qaa r2_3 e4)
  have hps9:∀ p∈([(.slice (some ⟨g4,0,none⟩) 32 32,xs)]:List (Value×List Int)),RdK .u8 W4.heap.size p.2 p.1 W4∧Qak p.2:=by
    intro p hp
    simp only [List.mem_cons,List.not_mem_nil,or_false] at hp
    rcases hp with rfl
    · exact ⟨RdK.here (Qku (xs:=xs) (n:=32) hx r4_4 (Qa6 r4_4) (show 32≤maxLen from by decide)),hb⟩
  have hsh9:=Qoe g8 1 _ ([(.slice (some ⟨g4,0,none⟩) 32 32,xs)]:List (Value×List Int)) rfl (by decide) tc tq W4 r1_4 r2_4 r8_4 hps9 (by simp only [List.map_cons,List.map_nil,List.flatten_cons,List.flatten_nil,List.append_nil,List.length_append]; omega)
  rw [show ((List.map Prod.snd ([(.slice (some ⟨g4,0,none⟩) 32 32,xs)]:List (Value×List Int))).flatten)=xs by simp only [List.map_cons,List.map_nil,List.flatten_cons,List.flatten_nil,List.append_nil]] at hsh9
  refine Qar (.agg (ints .u8 (dig (xs)))) 41 #[.slice (some ⟨g8,0,none⟩) 1 1] 7 rfl kj kj hsh9 fun W5 e5=>?_
  have x5:Ext w W5:=Ext.tr x4 e5
  refine Qaj (ints .u8 (List.replicate 64 0)) 30 4 rfl kj kj fun g10 W6 l10 e6 r10_6=>?_
  have x6:Ext w W6:=Ext.tr x5 e6
  have b10:w.heap.size≤g10:=qT x5.size l10
  refine Qal g10 _ (ints .u8 (dig (xs))) 30 r10_6 rfl kj (Qai 30 _ _ g10 30 _ _ r10_6 rfl kj kj (isz (n:=64) kj ((Qaf _ _).trans (dig_len _))) (eqsz (n:=64) ((Qaf _ _).trans (qZ (n:=64))) ((Qaf _ _).trans (dig_len _))) (ints_one _ _)) fun W7 p7 r10_7=>?_
  have x7:Ext w W7:=Puts.ext p7 x6 b10
  refine Qag ?_
  refine hK7 _ _ ?_
  refine wp_seq_k fun K11 hK11=>?_
  refine Qbb 2 [⟨none,[(2,none)]⟩,⟨none,[(4,none)]⟩] kj kj fun F hF=>?_
  refine Qbr (QaG _) (.slice (some ⟨g5,0,none⟩) 32 32) kj kj (fun W=>kj) ?_
  refine Qbr (QaG _) (.slice (some ⟨g10,0+0,none⟩) (32-0) (64-0)) kj kj (fun W=>(Qbj 30 _ _ _ 0 32 64 g10 0 5 rfl kj kj kj rfl ⟨.i64,kj⟩ (by omega) (by omega) (by omega))) ?_
  refine Qe7 (hF _ fun W8 e8=>?_)
  simp only [List.nil_append,List.cons_append,List.take_succ_cons,List.take_zero,List.drop_succ_cons,List.drop_zero,finE,up]
  clear hF
  have x8:Ext w W8:=Ext.tr x7 e8
  have r10_8:=(Qaa r10_7 e8)
  have hrd12:RdK .u8 W8.heap.size ((dig xs).take 32) (.slice (some ⟨g10,0+0,none⟩) (32-0) (64-0)) W8:=Qdi (l:=0) (h:=32) (n:=64) (dig_len xs) r10_8 (by decide) (by decide) (by decide)
  have r5_3:=(Qaa r5_2 e3)
  have r5_4:=(Qaa r5_3 e4)
  have r5_5:=(Qaa r5_4 e5)
  have r5_6:=(Qaa r5_5 e6)
  have r5_7:=(Puts.row p7 r5_6 (Qac r5_5 l10))
  have r5_8:=(Qaa r5_7 e8)
  refine QbN (k:=.u8) (e:=5) (z:=(dig xs).take 32) (.tmp 8) (.tmp 9) 27 27 10 rfl kj kj rfl kj (off:=0) (dl:=32) (dc:=32) (n:=32) (xs:=List.replicate 32 0) kj kj hrd12 r5_8 (qT (show 0+(32)≤32 from (by omega)) (qE (qZ (n:=32)).symm)) (by rw [(Qca (dig_len xs))]; rfl) fun W9 p9 r5_9=>?_
  have x9:Ext w W9:=Puts.ext p9 x8 b5
  have r5_9_13:W9.heap[g5]? = some (.cells (ints .u8 ((dig xs).take 32)) 23):=QaY r5_9 (QcC (Qca (dig_len xs)))
  refine Qag ?_
  refine hK11 _ _ ?_
  refine wp_seq_k fun K14 hK14=>?_
  refine Qbb 2 [⟨none,[(3,none)]⟩,⟨none,[(4,none)]⟩] kj kj fun F hF=>?_
  refine Qbr (QaG _) (.slice (some ⟨g6,0,none⟩) 32 32) kj kj (fun W=>kj) ?_
  refine Qbr (QaG _) (.slice (some ⟨g10,0+32,none⟩) (64-32) (64-32)) kj kj (fun W=>(Qbj 30 _ _ _ 32 64 64 g10 0 5 rfl kj kj kj ⟨.i64,kj⟩ rfl (by omega) (by omega) (by omega))) ?_
  refine Qe7 (hF _ fun W10 e10=>?_)
  simp only [List.nil_append,List.cons_append,List.take_succ_cons,List.take_zero,List.drop_succ_cons,List.drop_zero,finE,up]
  clear hF
  have x10:Ext w W10:=Ext.tr x9 e10
  have r10_9:=(Puts.row p9 r10_8 (Qat r5_5 l10))
  have r10_10:=(Qaa r10_9 e10)
  have hrd15:RdK .u8 W10.heap.size ((dig xs).drop 32) (.slice (some ⟨g10,0+32,none⟩) (64-32) (64-32)) W10:=by
    have h:=Qdi (l:=32) (h:=64) (n:=64) (dig_len xs) r10_10 (by decide) (by decide) (by decide)
    rwa [List.take_of_length_le (by rw [List.length_drop,dig_len]; decide)] at h
  have r6_4:=(Qaa r6_3 e4)
  have r6_5:=(Qaa r6_4 e5)
  have r6_6:=(Qaa r6_5 e6)
  have r6_7:=(Puts.row p7 r6_6 (Qac r6_5 l10))
  have r6_8:=(Qaa r6_7 e8)
  have r6_9:=(Puts.row p9 r6_8 (Qat r5_2 l6))
  have r6_10:=(Qaa r6_9 e10)
  refine QbN (k:=.u8) (e:=5) (z:=(dig xs).drop 32) (.tmp 11) (.tmp 12) 27 27 13 rfl kj kj rfl kj (off:=0) (dl:=32) (dc:=32) (n:=32) (xs:=List.replicate 32 0) kj kj hrd15 r6_10 (qT (show 0+(32)≤32 from (by omega)) (qE (qZ (n:=32)).symm)) (by rw [(QbH (dig_len xs))]; rfl) fun W11 p11 r6_11=>?_
  have x11:Ext w W11:=Puts.ext p11 x10 b6
  have r6_11_16:W11.heap[g6]? = some (.cells (ints .u8 ((dig xs).drop 32)) 23):=QaY r6_11 (QcC (QbH (dig_len xs)))
  refine Qag ?_
  refine hK14 _ _ ?_
  refine wp_seq_k fun K17 hK17=>?_
  refine QaB 3 [⟨none,[(2,none)]⟩,⟨none,[(14,some 0)]⟩,⟨none,[(3,none)]⟩] kj kj fun F hF=>?_
  have r5_10:=(Qaa r5_9_13 e10)
  have r5_11:=(Puts.row p11 r5_10 (Qac r5_2 l6))
  refine Qam (.agg (ints .u8 ((dig xs).take 32))) kj kj (fun W hR=>(Qae 23 _ g5 23 _ _ (Qaa (Qaa r5_11 (Qah _)) hR) rfl kj kj (isz (n:=32) kj ((Qaf _ _).trans (Qca (dig_len xs)))))) ?_
  refine Qaq (.agg (ints .u8 (clamp ((dig xs).take 32)))) 42 #[.agg (ints .u8 ((dig xs).take 32))] kj kj (fun W=>kj) (fun W hR=>(Ladder.clampC ((dig xs).take 32) (Qca (dig_len xs)) (QfA (dig_bytes xs))) W) ?_
  refine Qam (.agg (ints .u8 ((dig xs).drop 32))) kj kj (fun W hR=>(Qae 23 _ g6 23 _ _ (Qaa (Qaa r6_11_16 (Qah _)) hR) rfl kj kj (isz (n:=32) kj ((Qaf _ _).trans (QbH (dig_len xs)))))) ?_
  refine Qa3 (hF _ kj fun W12 e12=>?_)
  simp only [ups,up,Kn.val,List.take_succ_cons,List.take_zero,List.drop_succ_cons,List.drop_zero,List.nil_append,List.cons_append]
  clear hF
  have x12:Ext w W12:=Ext.tr x11 e12
  have r5_12:=(Qaa r5_11 e12)
  refine Qal g5 _ (ints .u8 (clamp ((dig xs).take 32))) 23 r5_12 rfl kj (Qai 23 _ _ g5 23 _ _ r5_12 rfl kj kj (isz (n:=32) kj ((Qaf _ _).trans (Qek (Qca (dig_len xs))))) (eqsz (n:=32) ((Qaf _ _).trans (Qca (dig_len xs))) ((Qaf _ _).trans (Qek (Qca (dig_len xs))))) (ints_one _ _)) fun W13 p13 r5_13=>?_
  have x13:Ext w W13:=Puts.ext p13 x12 b5
  have r6_12:=(Qaa r6_11_16 e12)
  have r6_13:=(Puts.row p13 r6_12 (Qat r5_2 l6))
  refine Qal g6 _ (ints .u8 ((dig xs).drop 32)) 23 r6_13 rfl kj (Qai 23 _ _ g6 23 _ _ r6_13 rfl kj kj (isz (n:=32) kj ((Qaf _ _).trans (QbH (dig_len xs)))) (eqsz (n:=32) ((Qaf _ _).trans (QbH (dig_len xs))) ((Qaf _ _).trans (QbH (dig_len xs)))) (ints_one _ _)) fun W14 p14 r6_14=>?_
  have x14:Ext w W14:=Puts.ext p14 x13 b6
  refine Qag ?_
  refine hK17 _ _ ?_
  refine wp_ret ?_
  repeat (first | with_reducible refine goR1 ?_ | with_reducible refine goR2 ?_)
  have r5_14:=(Puts.row p14 r5_13 (Qac r5_2 l6))
  exact (show bodyPost _ _ _ .ret _ _ from ret2 (.agg (ints .u8 (clamp ((dig xs).take 32)))) (.agg (ints .u8 ((dig xs).drop 32))) rfl (Qa9 g5 23 _ r5_14 kj kj (isz (n:=32) kj ((Qaf _ _).trans (Qek (Qca (dig_len xs)))))) (Qa9 g6 23 _ r6_14 kj kj (isz (n:=32) kj ((Qaf _ _).trans (QbH (dig_len xs))))) ⟨rfl,x14⟩)
end Go.Proofs.YtdoadngmgmdlbaaDoor.Sha5
end
section
namespace Go.Proofs.YtdoadngmgmdlbaaDoor.Own
open Go Go.RowKit
open Rely Auto Sha
def OwnR (T : TypeId) (base:Nat) (vs:List Value) (v:Value) (W:World):Prop:=W.ownsRow base T 1 v vs.length vs∧vs.length≤maxLen
theorem QhJ {T : TypeId} {base:Nat} {W:World}:OwnR T base [] (.slice none 0 0) W:=⟨⟨rfl,.inl ⟨rfl,rfl⟩⟩,Nat.zero_le _⟩
theorem OwnR.keep {T : TypeId} {base:Nat} {vs:List Value} {v:Value} {W W':World} (h:OwnR T base vs v W) (hk:∀ g,v.ownBlock=some g→W'.heap[g]? = W.heap[g]?):OwnR T base vs v W':=by
  obtain ⟨⟨h1,h2⟩,hm⟩:=h
  refine ⟨⟨h1,?_⟩,hm⟩
  rcases h2 with h2 | ⟨g,c,cur,rfl,q2,q3,q4,q5,q6,q7⟩
  · exact .inl h2
  · exact .inr ⟨g,c,cur,rfl,q2,(hk g rfl).trans q3,q4,q5,q6,q7⟩
theorem OwnR.at {T : TypeId} {base:Nat} {vs:List Value} {v:Value} {W:World} (h:OwnR T base vs v W) {g:Nat} (hg:v.ownBlock=some g):base≤g∧∃ cur,W.heap[g]? = some (.cells cur T):=by
  rcases h.1.2 with ⟨rfl,_⟩ | ⟨g',c,cur,rfl,q2,q3,_⟩
  · cases hg
  · obtain rfl:g'=g:=Option.some.inj hg
    exact ⟨q2,cur,q3⟩
theorem OwnR.ext {T : TypeId} {base:Nat} {vs:List Value} {v:Value} {W W':World} (h:OwnR T base vs v W) (e:Ext W W'):OwnR T base vs v W':=h.keep fun g hg=>by
  obtain ⟨_,c,hc⟩:=h.at hg
  exact e.block g (Qa6 hc)
theorem Qlr {W : World} {g:Nat} {c c':Array Value} {T T':TypeId} (h:W.heap[g]? = some (.cells c T)) (h':W.heap[g]? = some (.cells c' T')) (hne:T≠T'):False:=by
  rw [h] at h'
  simp only [Option.some.injEq,Obj.cells.injEq] at h'
  exact hne h'.2.1
theorem OwnR.puts {T T':TypeId} {base g:Nat} {vs:List Value} {v:Value} {W W':World} {c':Array Value} (h:OwnR T base vs v W) (p:Puts W g W') (r:W.heap[g]? = some (.cells c' T')) (hne:T≠T'):OwnR T base vs v W':=h.keep fun k hk=>by
  obtain ⟨_,c,hc⟩:=h.at hk
  exact p.2.2.2.2 k fun e=>by subst e; exact Qlr hc r hne
theorem QbP {T : TypeId} {base g:Nat} {vs:List Value} {v:Value} {W:World} (h:OwnR T base vs v W) (hg:g<base):v.ownBlock≠some g:=fun e=>by
  have:=(h.at e).1
  omega
theorem Qcs {T T':TypeId} {base g:Nat} {vs:List Value} {v:Value} {W:World} {c:Array Value} (h:OwnR T base vs v W) (r:W.heap[g]? = some (.cells c T')) (hne:T≠T'):v.ownBlock≠some g:=fun e=>by
  obtain ⟨_,c2,hc⟩:=h.at e
  exact Qlr hc r hne
theorem Qbe {W W':World} {ob:Option Nat} {g:Nat} {o:Obj} (h:W.grownBy W' ob) (r:W.heap[g]? = some o) (hn:ob≠some g):W'.heap[g]? = some o:=(h.block g (Qa6 r) (fun e=>hn e.symm)).trans r
theorem QgB {w W W':World} {ob:Option Nat} (e:Ext w W) (h:W.grownBy W' ob) (hge:∀ g,ob=some g→w.heap.size≤g):Ext w W' :=
  ⟨h.os.trans e.os,h.tape.trans e.tape,h.output.trans e.output,qT e.size h.size,fun i hi=>(h.block i (qL hi e.size) (fun q=>by have:=hge i q.symm; omega)).trans (e.block i hi)⟩
theorem OwnR.row {T : TypeId} {base n:Nat} {vs:List Value} {v:Value} {W:World} (h:OwnR T base vs v W) (hn:vs.length=n) (h0:0<n):∃ g c cur,v=.slice (some ⟨g,0,none⟩) n c∧base≤g∧W.heap[g]? = some (.cells cur T)∧∀ (i:Nat) (u:Value),vs[i]? = some u→cur[i]? = some u:=by
  subst hn
  rcases h.1.2 with ⟨_,h1⟩ | ⟨g,c,cur,h1,h2,h3,h4,h5,h6,h7⟩
  · omega
  · refine ⟨g,c,cur,h1,h2,h3,fun i u hi=>?_⟩
    have hl:i<vs.length:=(List.getElem?_eq_some_iff.1 hi).1
    rw [Nat.mul_one] at h7
    have e:(cur.toList.take vs.length)[i]? = vs[i]?:=by rw [h7]
    rw [List.getElem?_take_of_lt hl,hi] at e
    rw [←Array.getElem?_toList]
    exact e
section
variable {ds : List Deferred} {P : Program} {ops : Array Oper} {Q : Exit → Act → World → Prop} {rest : List Oper} {o : Oper} {N : Nat} {L : Env} {W : World}
theorem Qcy {T : TypeId} (base b:Nat) (s x:Operand) (t:TypeId) (ho:o.op=.call { callee:=.builtin .append,args:=#[s,x],argTypes:=#[t,t] })
    (ht:P.underlying t=some (.slice T)) (z:Value) (hi:(P.info? T).map (fun i=>(i.zero,i.size,i.bytes))=some (some z,1,b)) (hz:z.cells.size=1) (hb:b≤100) (d:Nat) (hd:o.dst=some d) (hg:Qc3 ops o N L=some true) {v:Value} {vs ys:List Value} {gy m c:Nat} {Ty:TypeId} {cs:Array Value}
    (hs:Rely.look (envN N L) s=v) (hx:Rely.look (envN N L) x=.slice (some ⟨gy,0,none⟩) m c) (ry:W.heap[gy]? = some (.cells cs Ty)) (hm:ys.length=m) (hy:∀ (i:Nat) (u:Value),ys[i]? = some u→cs[i]? = some u) (h1:∀ u∈ys,u.oneCell'=true)
    (h:OwnR T base vs v W) (hn:vs.length≤100000) (hn2:m≤100000) (hV:base≤W.heap.size)
    (kk:∀ (u:Value) (W':World),OwnR T base (vs++ys) u W'→W.grownBy W' v.ownBlock→WL P ops Q rest (Qay ds N ((d,u)::L)) W'):WL P ops Q (o::rest) (Qay ds N L) W:=by
  have hii:∃ i,P.info? T=some i∧i.zero=some z∧i.size=1∧i.bytes=b:=by
    cases hq:P.info? T with
    | none=>rw [hq] at hi; cases hi
    | some i =>
      rw [hq] at hi
      simp only [Option.map_some,Option.some.injEq,Prod.mk.injEq] at hi
      exact ⟨i,rfl,hi.1,hi.2.1,hi.2.2⟩
  obtain ⟨i,hq,hi1,hi2,hi3⟩:=hii
  obtain ⟨v',W',hr,h2,h3,_,h5⟩:=run_append_own_at (P:=P) W base t o.type T i z 1 b ht hq hi1 hi2 hi3 hz (by omega) v vs.length vs h.1 ⟨gy,0,none⟩ m c ys (by omega)
    (fun j u hu=>by
      rw [WideShapes.add_plain]
      exact QaE ry (by rw [Nat.zero_add]; exact hy j u hu)) h1 (by simp only [maxLen]; omega) (by
        have:(vs.length+m)*b≤200000*100:=Nat.mul_le_mul (by omega) hb
        omega) hV
  refine Qc5 _ _ d hd hg (show (execOp (Rely.look (envN N L)) o).run P W=.ok (.value v') W' from ?_) (kk v' W' ⟨by rw [List.length_append,hm]; exact h2,by rw [List.length_append,hm]; simp only [maxLen]; omega⟩ h3)
  unfold execOp
  simp only [ho,resolve,invoke,builtin,Sem.run_bind,Sem.run_pure,Result.andThen_ok,List.map_toArray,List.map_cons,List.map_nil,hs,hx,hr]
end
end Go.Proofs.YtdoadngmgmdlbaaDoor.Own
end
section
namespace Go.Proofs.YtdoadngmgmdlbaaDoor.Auto
open Go Go.RowKit
open Rely
section
variable {P : Program} {Rd : World → Prop} {w0 : World} {base N : Nat} {L : Env} {U : List Nat} {F : List Kn → Prop} {o : Oper} {os : List Oper} {s : Src} {ss : List Src} {C : List Kn}
theorem Qap (v : Value) (hs:seen C o s=true) (hg:gOk s.guard (get (envS N L (C.map Kn.val) s.reads))=true) (hd:o.dst.isNone=false)
    (h:∀ W,(execOp (Rely.look (get (envS N L (C.map Kn.val) s.reads))) o).run P W=.ok (.value v) W)
    (hk:Qct P Rd w0 base N L U F os ss (C++[.is v])):Qct P Rd w0 base N L U F (o::os) (s::ss) C :=
  ⟨.is v,(fun hn=>by rw [hd] at hn; cases hn),(fun _=>by
    split
    · exact ⟨hs,v,rfl,fun W _=>Qcm hg (h W)⟩
    · intro ρ W hR hh
      rw [QcJ hs hh]
      refine Qcm hg ?_
      unfold QaN
      rw [Qdg hs hh,h W]
      exact ⟨Ext.refl _,rfl⟩),hk⟩
theorem Qcb (v : Value) (f:FuncId) (args:Array Value) (hu:U.contains C.length=false) (hs:seen C o s=true) (hg:gOk s.guard (get (envS N L (C.map Kn.val) s.reads))=true) (hd:o.dst.isNone=false)
    (h:∀ W,(execOp (Rely.look (get (envS N L (C.map Kn.val) s.reads))) o).run P W=.ok (.enter f args) W) (hc:∀ W,Ext w0 W→Calls P f args W (Ret W v))
    (hk:Qct P Rd w0 base N L U F os ss (C++[.is v])):Qct P Rd w0 base N L U F (o::os) (s::ss) C :=
  t_op (.is v) hu hs hg hd (fun W hR=>by
    rw [h]
    exact ⟨Ext.refl _,(hc W hR).mono fun _ _ h=>h.const⟩) hk
theorem QiS (cs : Array Value) (T:TypeId) (hu:U.contains C.length=false) (hs:seen C o s=true) (hb:base≤w0.heap.size) (hg:gOk s.guard (get (envS N L (C.map Kn.val) s.reads))=true) (hd:o.dst.isNone=false)
    (h:∀ W,(execOp (Rely.look (get (envS N L (C.map Kn.val) s.reads))) o).run P W=.ok (.value (.pointer (some ⟨W.heap.size,0,none⟩))) (W.alloc (.cells cs T)))
    (hk:Qct P Rd w0 base N L U F os ss (C++[.new cs T])):Qct P Rd w0 base N L U F (o::os) (s::ss) C :=
  t_op (.new cs T) hu hs hg hd (fun W hR=>by
    rw [h]
    refine ⟨Qa8 _ _,_,rfl,?_,heap_alloc_new _ _⟩
    have:=hR.size
    omega) hk
end
end Go.Proofs.YtdoadngmgmdlbaaDoor.Auto
end
section
section
namespace Go.Proofs.YtdoadngmgmdlbaaDoor.Rely
open Go
section
variable {P : Program} {R : World → World → Prop} {w0 : World} {r0 : Tmp → Value} {F : List Fact → Prop} {o : Oper} {os : List Oper} {s : Src} {ss : List Src} {E : List Fact}
theorem Qas (c : Value) (h:∀ (ρ:Tmp→Value) (W:World),R w0 W→QbJ r0 E ρ W s.reads→guarded s.guard ρ (QaN P R o ρ W fun v _=>v=c) (undef=c))
    (hk:relies P R w0 r0 F os ss (E++[fun v _=>v=c])):relies P R w0 r0 F (o::os) (s::ss) E :=
  ⟨fun v _=>v=c,fun _ _ _ _ h=>h,h,hk⟩
end
end Go.Proofs.YtdoadngmgmdlbaaDoor.Rely
end
section
namespace Go.Proofs.YtdoadngmgmdlbaaDoor.Rely
open Go Go.RowKit
theorem QjH (W : World) (n:Nat):Ext W (W.drewN n):=⟨rfl,rfl,rfl,qR _,fun _ _=>rfl⟩
end Go.Proofs.YtdoadngmgmdlbaaDoor.Rely
end
section
namespace Go.Proofs.YtdoadngmgmdlbaaDoor.Rely
open Go Go.RowKit
theorem nth_set_ne (xs : List Int) (i j:Nat) (v:Int) (h:i≠j):nth (xs.set i v) j=nth xs j:=by
  simp [nth,List.getElem?_set_ne h]
theorem Qbw {P : Program} {o:Oper} {ρ:Tmp→Value} {W:World} (ty:TypeId) (x:Operand) (ho:o.op=.load ty x)
    (g:Nat) (hx:look ρ x=.pointer (some ⟨g,0,none⟩)) (t:TypeId) (cs:Array Value) (fr:Nat×Nat) (d:TypeDesc) (hg:W.heap[g]? = some (.cells cs t fr))
    (hu:P.underlying ty=some d) (hd:(match d with | .struct _ | .array _ _=>true | _=>false)=true) (hi:(P.info? ty).map (·.size)=some cs.size) :
    QaN P Ext o ρ W (fun v _=>v=.agg cs):=by
  unfold QaN execOp
  simp only [ho,hx,Instr.loadAt,Instr.sureAddr,Sem.run_bind,Sem.run_pure,Result.andThen_ok,run_loadVar_row W g t ty cs fr d hg hu hd hi]
  exact ⟨Ext.refl _,rfl⟩
end Go.Proofs.YtdoadngmgmdlbaaDoor.Rely
end
section
namespace Go.Proofs.YtdoadngmgmdlbaaDoor.Rely
open Go Go.RowKit
theorem QcF {W : World} {g:Nat} {cs:Array Value} {t:TypeId} (i:Nat) (v:Value) (h:W.heap[g]? = some (.cells cs t)):(W.setCell ⟨g,i,none⟩ v).heap[g]? = some (.cells (cs.setIfInBounds i v) t):=by
  simp [World.setCell,Array.getElem?_modify,h]
theorem QaI {W : World} {g k:Nat} (i:Nat) (v:Value) (hk:k≠g):(W.setCell ⟨g,i,none⟩ v).heap[k]? = W.heap[k]?:=by
  simp [World.setCell,Array.getElem?_modify,Ne.symm hk]
theorem QcI {w W:World} {g:Nat} (h:Ext w W) (hg:w.heap.size≤g) (i:Nat) (v:Value):Ext w (W.setCell ⟨g,i,none⟩ v):=h.setCell (p:=⟨g,i,none⟩) hg v
theorem QaU {w W:World} {g:Nat} (h:Ext w W) (hg:w.heap.size≤g) (cs:Array Value):Ext w (W.setRow g cs) :=
  ⟨h.os,h.tape,h.output,by simpa using h.size,fun k hk=>(setRow_other W g k cs (by omega)).trans (h.block k hk)⟩
end Go.Proofs.YtdoadngmgmdlbaaDoor.Rely
end
section
namespace Go.Proofs.YtdoadngmgmdlbaaDoor.Rely
open Go Go.RowKit
theorem Qbt {F : Fence} {n:Nat} {P:Program} {ops:Array Oper} {rest:List Oper} {o:Oper} {a:Act} {w:World} {Q:Exit→Act→World→Prop} (hgd:o.guard=none) (ty:TypeId) (x:Operand) (ho:o.op=.load ty x)
    (g:Nat) (hx:a.eval x=.pointer (some ⟨g,0,none⟩)) (t:TypeId) (cs:Array Value) (fr:Nat×Nat) (d:TypeDesc) (hg:w.heap[g]? = some (.cells cs t fr))
    (hu:P.underlying ty=some d) (hd:(match d with | .struct _ | .array _ _=>true | _=>false)=true) (hi:(P.info? ty).map (·.size)=some cs.size)
    (h:wpListIn F n P ops Q rest (a.put o.dst (.agg cs)) w):wpListIn F n P ops Q (o::rest) a w:=by
  refine wpListIn_plain hgd fun K hK'=>?_
  unfold Oper.wpIn
  refine ⟨?_,?_⟩
  · simp [Oper.about,ho]
  · rw [Oper.semAt_plain F _ _ (by rw [ho]; intro c hc'; cases hc')]
    unfold execOp
    simp only [ho,hx,Instr.loadAt,Instr.sureAddr,Sem.run_bind,Sem.run_pure,Result.andThen_ok,run_loadVar_row w g t ty cs fr d hg hu hd hi]
    exact hK' _ _ h
theorem Qbl {F : Fence} {n:Nat} {P:Program} {ops:Array Oper} {rest:List Oper} {o:Oper} {a:Act} {w:World} {Q:Exit→Act→World→Prop} (hgd:o.guard=none) (ty:TypeId) (x y:Operand) (ho:o.op=.store ty x y)
    (g:Nat) (cells:Array Value) (hx:a.eval x=.pointer (some ⟨g,0,none⟩)) (hy:a.eval y=.agg cells)
    (t:TypeId) (old:Array Value) (hg:w.heap[g]? = some (.cells old t (0,0))) (hi:(P.info? ty).map (·.size)=some cells.size)
    (hold:old.size=cells.size) (h1:cells.all (·.oneCell')=true)
    (h:wpListIn F n P ops Q rest (a.put o.dst undef) (w.setRow g cells)):wpListIn F n P ops Q (o::rest) a w:=by
  refine wpListIn_plain hgd fun K hK'=>?_
  unfold Oper.wpIn
  refine ⟨?_,?_⟩
  · simp [Oper.about,ho]
  · rw [Oper.semAt_plain F _ _ (by rw [ho]; intro c hc'; cases hc')]
    unfold execOp
    simp only [ho,hx,hy,Instr.storeAt,Instr.sureAddr,Sem.run_bind,Sem.run_pure,Result.andThen_ok,run_storeVar_row w g t ty old cells hg hi hold h1]
    exact hK' _ _ h
theorem Qc9 {W : World} {g:Nat} {cs:Array Value} {t:TypeId} (hg:W.heap[g]? = some (.cells cs t)) (new:Array Value):KeepsOthers W (W.setRow g new) :=
  ⟨by simp,fun k o hk ho=>by
    refine (setRow_other W g k new fun e=>?_).trans hk
    subst e
    rw [hg] at hk
    cases hk
    cases ho⟩
theorem Qel {n : Nat} {W W':World} (h:Ext W W') (hn:n≤W.heap.size):Below n W W':=h.mono hn
theorem Qdo {n : Nat} {a W:World} (h:Below n a W) {g:Nat} (hg:n≤g) (cs:Array Value):Below n a (W.setRow g cs) :=
  ⟨h.os,h.tape,h.output,by simpa using h.size,fun k hk=>(setRow_other W g k cs (by omega)).trans (h.block k hk)⟩
end Go.Proofs.YtdoadngmgmdlbaaDoor.Rely
end
section
namespace Go.Proofs.YtdoadngmgmdlbaaDoor.Rely
open Go
def Qig (D : List Nat) (E:List Fact):Prop:=∀ j∈D,∀ u W,(E.getD j fun _ _=>True) u W→∃ g,u=.pointer (some ⟨g,0,none⟩)∧g<W.heap.size
section
variable {P : Program} {R : World → World → Prop} {w0 : World} {a0 : Act}
theorem Qfn {l : List Oper} {n N:Nat} {S:List Src} {E:List Fact} {D:List Nat} {Q:Exit→Act→World→Prop} (hD:QcD l D=true) (hB:Qig D E) (hok:ok l n N S=true) (hN:a0.tmps.size=N) (hrf:∀ a,R a a) (htr:∀ {a b c:World},R a b→R b c→R a c)
    (hE:E.length=(l.take n).length) (hst:∀ φ∈E,QbT R φ)
    (hop:∀ j o s,(l.take n)[j]? = some o→S[j]? = some s→opOk P R w0 (slots a0) E o s (E.getD j fun _ _=>True))
    (hfin:∀ W,R w0 W→finP (fun a W=>wpList P l.toArray Q (l.drop n) a W) D (l.take n) E 0 [] a0 W) :
    ∀ (fuel:Nat) (listed:Array Bool) (a:Act) (W:World) (vs:Nat→Value),Inv R w0 a0 l.toArray E n listed a W vs→QiI D n listed vs→fuel=left l.toArray listed→wpAny P .any l.toArray Q fuel listed a W:=by
  simp only [ok,Bool.and_eq_true,decide_eq_true_eq] at hok
  obtain ⟨⟨⟨⟨⟨hn,hsrc⟩,hdst⟩,hedge⟩,htail⟩,hdt⟩:=hok
  have hlen:(l.take n).length=n:=by simp [hn]
  have hget:∀ i,i<n→(l.take n)[i]? = l[i]?:=fun i hi=>by simp [hi]
  have hgd:∀ i,(E.getD i fun _ _=>True)=(fun _ _=>True)∨(E.getD i fun _ _=>True)∈E:=fun i=>by
    rcases Nat.lt_or_ge i E.length with h | h
    · right; simp [h]
    · left; simp [List.getElem?_eq_none h]
  have hstg:∀ i,QbT R (E.getD i fun _ _=>True):=fun i=>by
    rcases hgd i with h | h
    · rw [h]; exact fun _ _ _ _ _=>trivial
    · exact hst _ h
  have hanc:∀ j i,((masks l #[]).getD j 0).testBit i=true→Anc l.toArray i j:=Qdk l.toArray l #[] (fun j=>by simp) (fun j i h=>by simp at h)
  have count:∀ (listed:Array Bool),(∀ i,i<n→listed.getD i true=true)→(∀ i,n≤i→i<l.length→listed.getD i true=false)→left l.toArray listed=l.length-n:=by
    intro listed h1 h2
    unfold left
    simp only [List.size_toArray]
    have:∀ m,m≤l.length→(List.range m).countP (fun i=>!listed.getD i true)=m-n:=by
      intro m
      induction m with
      | zero=>intro _; simp
      | succ m ih =>
        intro hm
        rw [List.range_succ,List.countP_append,ih (by omega),List.countP_singleton]
        by_cases hmn:m<n
        · simp only [h1 m hmn,Bool.not_true,Bool.false_eq_true,if_false]; omega
        · simp only [h2 m (by omega) (by omega),Bool.not_false,if_true]; omega
    exact this l.length (qR _)
  have done:∀ (fuel:Nat) (listed:Array Bool) (a:Act) (W:World) (vs:Nat→Value),Inv R w0 a0 l.toArray E n listed a W vs→QiI D n listed vs→fuel=left l.toArray listed→(∀ i,i<n→listed.getD i true=true)→wpAny P .any l.toArray Q fuel listed a W:=by
    intro fuel listed a W vs inv hpr hf hall
    have hs:listed.size=l.length:=by simpa using inv.size
    have hall':∀ i,i<n→listed.getD i false=true:=fun i hi=>by
      cases hx:listed.getD i false with
      | true=>rfl
      | false=>have:=getD_in (by omega) hx; rw [hall i hi] at this; cases this
    refine Qfs htail hedge fuel n listed a W (qR _) hn hs inv.closed hall' inv.tail (by rw [hf]; exact count listed hall (fun i h1 h2=>getD_in (by omega) (inv.tail i h1))) ?_
    have hq:=QfX (D:=D) (l.take n) E a0 vs 0 [] (hfin W inv.rel) hE (fun i hi=>by
      rw [Nat.zero_add]
      exact inv.facts i (hall' i (by omega)) (by omega)) (fun u hu=>by cases hu) (fun i k hi hk hin hkn hne=>hpr i k hi hk (hall' i (by omega)) (hall' k (by omega)) (by omega) (by omega) hne)
    have heq:QaL (l.take n) vs 0 a0=a:=by
      have hsz:=Qcv (l.take n) vs 0 a0
      have ht:(QaL (l.take n) vs 0 a0).tmps=a.tmps:=by
        refine Array.ext_getElem? fun t=>?_
        by_cases hw:∃ (i:Nat) (o:Oper),(l.take n)[i]? = some o∧o.dst=some t
        · obtain ⟨i,o,hi,ho⟩:=hw
          have hin:i<n:=by have:=(List.getElem?_eq_some_iff.1 hi).1; omega
          rw [Qcf (l.take n) vs 0 a0 t i o hdst hN hi ho,Nat.zero_add]
          exact (inv.vals i o t (hall' i hin) hin (by rw [hget i hin] at hi; simpa using hi) ho).symm
        · rw [QbD (l.take n) vs 0 a0 t (fun o ho he=>by
            obtain ⟨i,hi⟩:=List.mem_iff_getElem?.1 ho
            exact hw ⟨i,o,hi,he⟩)]
          refine (inv.rest t fun i o _ hin hi he=>hw ⟨i,o,by rw [hget i hin]; simpa using hi,he⟩).symm
      have hd:=hsz.2.trans inv.defers.symm
      generalize QaL (l.take n) vs 0 a0=b at *
      cases a; cases b
      simp_all
    rw [heq] at hq
    exact hq
  have main:∀ (fuel:Nat) (listed:Array Bool) (a:Act) (W:World) (vs:Nat→Value),Inv R w0 a0 l.toArray E n listed a W vs→QiI D n listed vs→fuel=left l.toArray listed→wpAny P .any l.toArray Q fuel listed a W:=by
    intro fuel
    induction fuel with
    | zero =>
      intro listed a W vs inv hpr hf
      refine done 0 listed a W vs inv hpr hf fun i hi=>?_
      cases hx:listed.getD i true with
      | true=>rfl
      | false =>
        have:=QfR (ops:=l.toArray) (by simp; omega) hx
        omega
    | succ fuel ih =>
      intro listed a W vs inv hpr hf
      by_cases hA:∀ i,i<n→listed.getD i true=true
      · exact done _ listed a W vs inv hpr hf hA
      · have hs:listed.size=l.length:=by simpa using inv.size
        obtain ⟨i0,hi0,hu0⟩:∃ i,i<n∧listed.getD i true=false:=by
          refine Classical.byContradiction fun hc=>hA fun i hi=>?_
          cases hx:listed.getD i true with
          | true=>rfl
          | false=>exact absurd ⟨i,hi,hx⟩ hc
        refine ⟨fun hr=>?_,fun j hj=>?_⟩
        · obtain ⟨j,hj⟩:=Qcu hedge (listed:=listed) i0 (by omega) hu0
          rw [hr] at hj; cases hj
        · obtain ⟨hju,oj,hoj,_⟩:=mem_ready.1 hj
          have hoj':l[j]? = some oj:=by simpa using hoj
          have hjl:j<l.length:=(List.getElem?_eq_some_iff.1 hoj').1
          have hjn:j<n:=by
            rcases Nat.lt_or_ge j n with h | h
            · exact h
            · exfalso
              have h3:=List.all_eq_true.1 htail j (List.mem_range.2 hjl)
              simp only [Bool.or_eq_true,decide_eq_true_eq] at h3
              rcases h3 with h3 | h3
              · omega
              · have h4:=List.all_eq_true.1 h3 i0 (List.mem_range.2 (by omega))
                have:=Qby inv.closed hj (hanc j i0 h4)
                rw [QaS this] at hu0
                cases hu0
          obtain ⟨s,hsj,hso⟩:=QeB (l.take n) S 0 hsrc j oj (by rw [hget j hjn]; exact hoj')
          rw [Nat.zero_add] at hso
          simp only [Qin,Bool.and_eq_true] at hso
          obtain ⟨hg,hrd⟩:=hso
          have hg':QcX l.toArray oj=some s.guard:=by simpa using hg
          have holds:∀ (r:List (Tmp×Option Nat)),r.all (Qd4 l (masks l #[]) j)=true→QbJ (slots a0) E (slots a) W r:=by
            intro r
            induction r with
            | nil=>intro _; trivial
            | cons x r ihr =>
              intro hr
              simp only [List.all_cons,Bool.and_eq_true] at hr
              obtain ⟨t,si⟩:=x
              cases si with
              | none =>
                refine ⟨?_,ihr hr.2⟩
                have h1:=hr.1
                simp only [Qd4] at h1
                have h2:a.tmps[t]? = a0.tmps[t]?:=inv.rest t fun i o hli hin hio hd=>by
                  have h3:=List.all_eq_true.1 h1 (o,i) (by
                    rw [List.mem_iff_getElem?]
                    refine ⟨i,?_⟩
                    rw [List.getElem?_zipIdx]
                    have:l[i]? = some o:=by simpa using hio
                    simp [this])
                  simp only [hd,bne_self_eq_false,Bool.false_or,Bool.or_eq_true,beq_iff_eq] at h3
                  have hlj:listed.getD j false=true:=by
                    rcases h3 with h3 | h3
                    · exact inv.closed.anc (hanc i j h3) hli
                    · rw [←h3]; exact hli
                  rw [QaS hlj] at hju
                  cases hju
                simp only [slots,Array.getD_eq_getD_getElem?,h2]
              | some i =>
                refine ⟨?_,ihr hr.2⟩
                have h1:=hr.1
                simp only [Qd4,Bool.and_eq_true,decide_eq_true_eq,beq_iff_eq] at h1
                obtain ⟨⟨hij,hbit⟩,hdi⟩:=h1
                have hli:=Qby inv.closed hj (hanc j i hbit)
                obtain ⟨oi,hoi,hdi'⟩:∃ oi,l[i]? = some oi∧oi.dst=some t:=by
                  cases hx:l[i]? with
                  | none=>rw [hx] at hdi; cases hdi
                  | some oi=>rw [hx] at hdi; exact ⟨oi,rfl,hdi⟩
                have hv:=inv.vals i oi t hli (by omega) (by simpa using hoi) hdi'
                have:slots a t=vs i:=by simp only [slots,Array.getD_eq_getD_getElem?,hv,Option.getD_some]
                rw [this]
                exact inv.facts i hli (by omega)
          have hopj:=hop j oj s (by rw [hget j hjn]; exact hoj') hsj (slots a) W inv.rel (holds s.reads hrd)
          have next:∀ v W',R W W'→((E.getD j fun _ _=>True) v W'∧(j∈D→v=.pointer (some ⟨W.heap.size,0,none⟩)))→wpAny P .any l.toArray Q fuel (listed.setIfInBounds j true) (a.put oj.dst v) W':=by
            intro v W' hR ⟨hφ,hfresh⟩
            have hjs:j<listed.size:=by omega
            have hlist:∀ i,(listed.setIfInBounds j true).getD i false=true→i=j∨listed.getD i false=true:=fun i hi=>by
              by_cases hij:j=i
              · exact .inl hij.symm
              · rw [getD_set_ne false hij] at hi; exact .inr hi
            refine ih _ _ W' (fun i=>if i=j then v else vs i) ⟨by simp [inv.size],inv.closed.set hj,htr inv.rel hR,(QcM _ _ _).trans inv.defers,(Qdu _ _ _).trans inv.asize,?_,?_,?_,?_⟩ ?_ ?_
            · intro i hi hin
              by_cases hij:i=j
              · subst hij; simpa using hφ
              · simp only [hij,if_false]
                rcases hlist i hi with h | h
                · exact absurd h hij
                · exact hstg i _ _ _ hR (inv.facts i h hin)
            · intro i o d hi hin hio hd
              by_cases hij:i=j
              · subst hij
                obtain rfl:o=oj:=Option.some.inj (hio.symm.trans hoj)
                rw [hd,QcL _ _ _ (by rw [inv.asize,hN]; exact Qff (l.take n) hdst i o d (by rw [hget i hin]; exact hoj') hd)]
                simp
              · simp only [hij,if_false]
                rcases hlist i hi with h | h
                · exact absurd h hij
                · rw [QbE _ _ _ _ (Qfe (l.take n) hdst i j o oj d (by rw [hget i hin]; simpa using hio) (by rw [hget j hjn]; exact hoj') hij hd)]
                  exact inv.vals i o d h hin hio hd
            · intro t ht
              rw [QbE _ _ _ _ (ht j oj (by simp [Array.getElem?_setIfInBounds_self_of_lt hjs]) hjn hoj)]
              exact inv.rest t fun i o hi hin hio=>ht i o (getD_set_true hi) hin hio
            · intro i hi
              rw [getD_set_ne false (by omega)]
              exact inv.tail i hi
            · have old:∀ k,k∈D→listed.getD k false=true→k<n→j∈D→vs k≠v:=fun k hk hl hkn hjD he=>by
                obtain ⟨g,hg1,hg2⟩:=hB k hk _ _ (inv.facts k hl hkn)
                rw [hg1,hfresh hjD] at he
                simp only [Value.pointer.injEq,Option.some.injEq,Addr.mk.injEq,and_true] at he
                omega
              intro i k hi hk hli hlk hin hkn hne
              by_cases hij:i=j
              · by_cases hkj:k=j
                · exact absurd (hij.trans hkj.symm) hne
                · simp only [hij,hkj,if_true,if_false]
                  exact (old k hk ((hlist k hlk).resolve_left hkj) hkn (hij▸hi)).symm
              · by_cases hkj:k=j
                · simp only [hij,hkj,if_true,if_false]
                  exact old i hi ((hlist i hli).resolve_left hij) hin (hkj▸hk)
                · simp only [hij,hkj,if_false]
                  exact hpr i k hi hk ((hlist i hli).resolve_left hij) ((hlist k hlk).resolve_left hkj) hin hkn hne
            · have:=Qed hju inv.size
              omega
          refine QbK hoj ?_
          rw [QbZ hg']
          by_cases hb:gOk s.guard (slots a)=true
          · rw [if_pos hb]
            refine QeP (R:=R) (W:=W) (φ:=fun v W'=>(E.getD j fun _ _=>True) v W'∧(j∈D→v=.pointer (some ⟨W.heap.size,0,none⟩))) (fun {_ _ _} h1 h2=>htr h1 h2) ?_ next
            cases hgd':s.guard with
            | none=>rw [hgd'] at hopj; exact Qc7 hD hoj' hopj
            | some db =>
              rw [hgd'] at hopj hb
              exact Qc7 hD hoj' ((if_pos hb).mp hopj)
          · rw [if_neg hb]
            refine next undef W (hrf W) ⟨?_,fun hjD=>absurd (noguard hD hjD hoj' hg') (fun e=>hb (by rw [e]; rfl))⟩
            cases hgd':s.guard with
            | none=>rw [hgd'] at hb; exact absurd rfl hb
            | some db =>
              rw [hgd'] at hopj hb
              exact (if_neg hb).mp hopj
  exact main
def Qih {P : Program} {R:World→World→Prop} {Q:Exit→Act→World→Prop} {a:Act} {w:World} {l:List Oper} {n:Nat} {D:List Nat} (F:List Fact→Prop):Prop :=
  ∀ E,Qig D E→(∀ W,R w.drew W→finP (fun a W=>wpList P l.toArray Q (l.drop n) a W) D (l.take n) E 0 [] a W)→F E
theorem Qih.out {P : Program} {R:World→World→Prop} {Q:Exit→Act→World→Prop} {a:Act} {w:World} {l:List Oper} {n:Nat} {D:List Nat} {F:List Fact→Prop} (h:Qih (P:=P) (R:=R) (Q:=Q) (a:=a) (w:=w) (l:=l) (n:=n) (D:=D) F) {E:List Fact} (b:Qig D E)
    (k:∀ W,R w.drew W→finP (fun a W=>wpList P l.toArray Q (l.drop n) a W) D (l.take n) E 0 [] a W):F E:=h E b k
theorem QeG {id : Nat} {Q:Exit→Act→World→Prop} {a:Act} {w:World} {l:List Oper} (R:World→World→Prop) (n N:Nat) (S:List Src) (D:List Nat) (hD:QcD l D=true) (hm:P.follows .mixedOrders=true) (hok:ok l n N S=true) (hN:a.tmps.size=N)
    (hrf:∀ a,R a a) (htr:∀ {a b c:World},R a b→R b c→R a c)
    (h:∀ (F:List Fact→Prop) (r0:Tmp→Value),r0=slots a→Qih (P:=P) (R:=R) (Q:=Q) (a:=a) (w:=w) (l:=l) (n:=n) (D:=D) F→relies P R w.drew r0 F (l.take n) S []):(Code.region id l.toArray true).wp P Q a w:=by
  have hok':=hok
  simp only [ok,Bool.and_eq_true,decide_eq_true_eq] at hok'
  obtain ⟨⟨⟨⟨⟨hn,hsrc⟩,hdst⟩,hedge⟩,htail⟩,hdt⟩:=hok'
  obtain ⟨E,hl,_,hst,hop,hB,hfin⟩:=Qdh (M:=masks l #[]) (l.take n) S [] (h (fun E=>Qig D E∧∀ W,R w.drew W→finP (fun a W=>wpList P l.toArray Q (l.drop n) a W) D (l.take n) E 0 [] a W) _ rfl (show Qih _ from fun _ b h=>⟨b,h⟩)) hsrc (fun _ h=>by cases h)
  refine wp_region_any hm ?_
  have hcount:l.toArray.size=left l.toArray (Array.replicate l.toArray.size false):=by
    unfold left
    have:∀ m,m≤l.toArray.size→(List.range m).countP (fun i=>!(Array.replicate l.toArray.size false).getD i true)=m:=by
      intro m
      induction m with
      | zero=>intro _; simp
      | succ m ih =>
        intro hm
        rw [List.range_succ,List.countP_append,ih (by omega),List.countP_singleton]
        have:(Array.replicate l.toArray.size false).getD m true=false:=by simp at hm ⊢; simp [show m<l.length by omega]
        simp only [this,Bool.not_false,if_true]
    exact (this _ (qR _)).symm
  refine Qfn (R:=R) (w0:=w.drew) (a0:=a) hD hB hok hN hrf htr (by simpa using hl) hst (fun j o s hj hs=>by simpa using hop j o s hj hs) hfin _ _ a _ (fun _=>undef) ⟨by simp,?_,hrf _,rfl,rfl,?_,?_,?_,?_⟩ ?_ hcount
  · intro j o ho hl
    rw [getD_replicate_false] at hl; cases hl
  · intro i hi; rw [getD_replicate_false] at hi; cases hi
  · intro i o d hi; rw [getD_replicate_false] at hi; cases hi
  · intro t _; rfl
  · intro i _; exact getD_replicate_false _ _
  · intro i k _ _ hi; rw [getD_replicate_false] at hi; cases hi
end
end Go.Proofs.YtdoadngmgmdlbaaDoor.Rely
end
section
namespace Go.Proofs.YtdoadngmgmdlbaaDoor.Auto
open Go Go.RowKit
open Rely
variable {ds : List Deferred}
section
variable {P : Program} {w0 : World} {base N : Nat} {L : Env} {F : List Kn → Prop} {o : Oper} {os : List Oper} {s : Src} {ss : List Src} {C : List Kn}
theorem QbI (cs : Array Value) (T:TypeId) (hs:seen C o s=true) (hb:base≤w0.heap.size) (hg:gOk s.guard (get (envS N L (C.map Kn.val) s.reads))=true)
    (h:∀ W,(execOp (Rely.look (get (envS N L (C.map Kn.val) s.reads))) o).run P W=.ok (.value (.pointer (some ⟨W.heap.size,0,none⟩))) (W.alloc (.cells cs T)))
    (hk:steps P w0 base N L F os ss (C++[.new cs T])):steps P w0 base N L F (o::os) (s::ss) C :=
  Qif (.new cs T) hs hg (fun W hR=>by
    rw [h]
    refine ⟨Qa8 _ _,_,rfl,?_,heap_alloc_new _ _⟩
    have:=hR.size
    omega) hk
end
theorem Qfb {base : Nat} {W:World}:∀ (os:List Oper) (C:List Kn) (acc:List Nat) (L:Env) (A B:Env→World→Prop),(∀ L W,A L W→B L W)→fins base A os C acc L W→fins base B os C acc L W
  | [],C,acc,L,A,B,h,hh=>by cases C <;> exact h _ _ hh
  | o::os,[],acc,L,A,B,h,hh=>h _ _ hh
  | o::os,.is c::C,acc,L,A,B,h,hh=>Qfb os C acc _ A B h hh
  | o::os,.new cs T::C,acc,L,A,B,h,hh=>fun g h1 h2 h3=>Qfb os C _ _ A B h (hh g h1 h2 h3)
theorem Qbc {P : Program} {id:Nat} {Q:Exit→Act→World→Prop} {N:Nat} {L:Env} {w:World} {l:List Oper} (n:Nat) (S:List Src) (D:List Nat) (hD:QcD l D=true) (hm:P.follows .mixedOrders=true) (hok:ok l n N S=true)
    (h:∀ F:List Kn→Prop,(∀ C,Qd5 C 0=D→(∀ W,Ext w W→fins w.heap.size (fun L W=>WL P l.toArray Q (l.drop n) (Qay ds N L) W) (l.take n) C [] L W)→F C)→steps P w.drew w.heap.size N L F (l.take n) S []) :
    (Code.region id l.toArray true).wp P Q (Qay ds N L) w:=by
  refine QeG Ext n N S D hD hm hok (Qdr N L) Ext.refl Ext.trans fun F r0 hr hF=>?_
  rw [QbX] at hr
  subst hr
  have:=h (fun C=>Qd5 C 0=D∧∀ W,Ext w W→fins w.heap.size (fun L W=>WL P l.toArray Q (l.drop n) (Qay ds N L) W) (l.take n) C [] L W) (fun C h1 h2=>⟨h1,h2⟩)
  refine Qde (F:=fun C=>Qd5 C 0=D∧∀ W,Ext w W→fins w.heap.size (fun L W=>WL P l.toArray Q (l.drop n) (Qay ds N L) W) (l.take n) C [] L W) (G:=F) (fun C h=>hF.out ?_ fun W hR=>?_) _ _ [] this
  · intro j hj u W hu
    obtain ⟨cs,T,hc⟩:=Qdx C C 0 (fun j=>by rw [Nat.zero_add]) j (by rw [h.1]; exact hj)
    have:(List.map (Kn.fact w.heap.size) C).getD j (fun _ _=>True)=Kn.fact w.heap.size (.new cs T):=by simp [hc]
    rw [this] at hu
    obtain ⟨g,h1,h2,h3⟩:=hu
    exact ⟨g,h1,Qa6 h3⟩
  · exact Qeg (Q:=fun a W=>wpList P l.toArray Q (l.drop n) a W) _ _ 0 [] L (fun i _=>by rw [h.1]; simp) (Qfb _ _ _ _ _ _ (fun L W hh=>hh.out) (h.2 W (Rely.Ext.trans (Qah w) hR)))
end Go.Proofs.YtdoadngmgmdlbaaDoor.Auto
end
section
namespace Go.Proofs.YtdoadngmgmdlbaaDoor.Auto
open Go Go.RowKit
open Rely
variable {ds : List Deferred} {Fe : Fence} {nf : Nat}
section
variable {P : Program} {ops : Array Oper} {Q : Exit → Act → World → Prop} {rest : List Oper} {o : Oper} {N : Nat} {L : Env} {w : World}
theorem QcW (v : Value) (f:FuncId) (args:Array Value) (d:Nat) (hd:o.dst=some d) (hF:Free Fe nf P) (hnd:QdE o=true) (hg:Qc3 ops o N L=some true) (h:(execOp (Rely.look (envN N L)) o).run P w=.ok (.enter f args) w)
    (hc:Calls P f args w (Ret w v)) (k:∀ W:World,Ext w W→WLI Fe nf P ops Q rest (Qay ds N ((d,v)::L)) W):WLI Fe nf P ops Q (o::rest) (Qay ds N L) w :=
  Qm7 hF hnd hg fun K hK=>by
    rw [h]
    refine ⟨hF.dp,(hF.calls hc).mono ?_⟩
    rintro e w' ⟨rfl,hw⟩
    show K _ _
    rw [hd,Qcg]
    exact hK _ _ (k _ hw)
end
section
variable {P : Program} {Q : Exit → Act → World → Prop} {w : World} {N : Nat} {L : Env}
theorem Qdl {c : Operand} {x y:Code} (hc:Rely.look (envN N L) c=.bool true) (h:x.wpIn Fe nf P Q (Qay ds N L) w):(Code.cond c x y).wpIn Fe nf P Q (Qay ds N L) w:=wpIn_cond_true (by rw [QbG]; exact hc) h
theorem QcV {c : Operand} {x y:Code} (hc:Rely.look (envN N L) c=.bool false) (h:y.wpIn Fe nf P Q (Qay ds N L) w):(Code.cond c x y).wpIn Fe nf P Q (Qay ds N L) w:=wpIn_cond_false (by rw [QbG]; exact hc) h
end
end Go.Proofs.YtdoadngmgmdlbaaDoor.Auto
end
section
namespace Go.Proofs.YtdoadngmgmdlbaaDoor.Auto
open Go Go.RowKit
open Rely
variable {ds : List Deferred}
theorem Qeq {α : Type} {P:Program} {g:Operand} {p:Tmp} {assign body:Code} {Q:Exit→Act→World→Prop} {N:Nat} {L:Env} {w:World}
    {gf:Nat} {lb:Array Value} (hg:Rely.look (envN N L) g=.func (.func gf) #[] lb) (eg:∀ args w,(callFunc gf args).run P w=.ok (.enter gf args) w)
    {enc:α→Value} {Kp:World→World→Prop} {S Sp:List α→Prop} {M:Nat} {w0:World} (hseq:SeqStopsK Fence.wide 2 P gf lb (fun x=>#[enc x]) Kp S Sp M w0)
    (hKt:∀ {A B C:World},Kp A B→Kp B C→Kp A C) (hKb:∀ (W:World) (l:Nat) (o o':Obj),w.heap.size≤l→W.heap[l]? = some o→o.isCells=false→o.isWalk=false→Kp W (W.putObj l o')) (hb0:Below w0.heap.size w0 w)
    (I:List α→World→Prop) (Ix:Code→List α→World→Prop) (hI:OwnFrom w.heap.size I) (hIx:∀ c,OwnFrom w.heap.size (Ix c)) (h0:I [] w) (asg:α→Env)
    (hassign:∀ (l:Nat) (x:α) (W:World) (K:Act→World→Prop),K (Qay [] N (asg x++L)) W→assign.wpIn (Fence.wide.inRound l) 1 P (Exit.then K (fun _ _ _=>False)) (Qay [] N ((p,enc x)::L)) W)
    (hbody:∀ (l:Nat) (pre:List α) (x:α) (W:World),I pre W→pre.length<M→body.wpIn (Fence.wide.inRound l) 1 P (ownPostK Kp I Ix (pre++[x]) W) (Qay [] N (asg x++L)) W)
    (hdone:∀ (D:Nat) (xs:List α) (W:World),w.heap.size≤D→S xs→I xs W→W.heap[D]? = some (.deferred (some []))→Q .normal (Qay (mark D::ds) N L) W)
    (hstop:∀ (D:Nat) (c:Code) (pre:List α) (W:World),w.heap.size≤D→Sp pre→Ix c pre W→W.heap[D]? = some (.deferred (some []))→c.wp P Q (Qay (mark D::ds) N L) W) :
    (Code.rangeFunc g #[p] assign body).wp P Q (Qay ds N L) w:=by
  refine (wpIn_wide (n:=3)).1 ?_
  refine wpIn_rangeFunc_ownF rfl (by omega) (by rw [QbG]; exact hg) trivial eg (w0:=w0) hseq hKt hKb hb0 (fun _=>rfl) I Ix hI hIx h0 (fun x=>Qay [] N (asg x++L)) (fun l x W K hK=>?_) hbody ?_ ?_
  · rw [Qhd]
    exact hassign l x W K hK
  · intro D xs W h1 h2 h3 h4
    exact hdone D xs W h1 h2 h3 h4
  · intro D c pre W h1 h2 h3 h4
    exact wpIn_wide.2 (hstop D c pre W h1 h2 h3 h4)
theorem Qhn {W : World} {g D:Nat} {cs:Array Value} {t:TypeId} {b:Option (List Deferred)} (h:W.heap[g]? = some (.cells cs t)) (hD:W.heap[D]? = some (.deferred b)):D≠g:=fun e=>by
  subst e
  rw [h] at hD
  cases hD
section
variable {P : Program} {fn : Func} {R : Ending → World → Prop} {N : Nat} {L : Env} {w : World}
theorem QlO {D : Nat} {r:ResultVar} (v:Value) (hr:fn.results=#[r]) (hD:w.heap[D]? = some (.deferred (some []))) (h:Qfo P (w.putObj D (.deferred none)) N L r v) (k:R (.returned v) (w.putObj D (.deferred none))):bodyPostM Fence.wide 3 P fn R .ret (Qay [mark D] N L) w :=
  ⟨by simp,.inl ⟨_,_,rfl,run_takeDeferred hD,⟨_,Qe0 hr h,k⟩⟩⟩
end
end Go.Proofs.YtdoadngmgmdlbaaDoor.Auto
end
section
namespace Go.Proofs.YtdoadngmgmdlbaaDoor.Auto
open Go Go.RowKit
open Rely
variable {ds : List Deferred}
theorem QkQ (n : Nat) (h:n<9223372036854775807):IntKind.i64.wrap ((n:Int)+1)=((n+1:Nat):Int):=by
  rw [show ((n:Int)+1)=((n+1:Nat):Int) by omega]
  exact Qhq _ (by omega)
end Go.Proofs.YtdoadngmgmdlbaaDoor.Auto
end
end
section
section
namespace Go.Proofs.YtdoadngmgmdlbaaDoor.Field
open Go Go.RowKit
open Rely
def isW (x : Int):Prop:=0≤x∧x<18446744073709551616
theorem QdN (x y c:Int) (hx:isW x) (hy:isW y) (hc:0≤c∧c≤1) :
    ∃ s d:Int,isW s∧(0≤d∧d≤1)∧s+18446744073709551616*d=x+y+c ∧
      ∀ W,(callFunc 88 #[.int .u64 x,.int .u64 y,.int .u64 c]).run Tryd.prog W=.ok (.value (.tuple #[.int .u64 s,.int .u64 d])) W:=by
  unfold isW at hx hy
  refine ⟨(x+y+c)%18446744073709551616,(x+y+c)/18446744073709551616,⟨by omega,by omega⟩,by omega,by omega,fun W=>?_⟩
  rw [run_callFunc_extern Tryd.func88 kj kj kj (e:=add64Entry) kj,run_add64 x y c hx.1 hy.1 hc.1 hc.2]
  rfl
theorem QdT (x y c:Int) (hx:isW x) (hy:isW y) (hc:0≤c∧c≤1) :
    ∃ s d:Int,isW s∧(0≤d∧d≤1)∧s-18446744073709551616*d=x-y-c ∧
      ∀ W,(callFunc 89 #[.int .u64 x,.int .u64 y,.int .u64 c]).run Tryd.prog W=.ok (.value (.tuple #[.int .u64 s,.int .u64 d])) W:=by
  unfold isW at hx hy
  obtain ⟨X,rfl⟩:=Int.eq_ofNat_of_zero_le hx.1
  obtain ⟨Y,rfl⟩:=Int.eq_ofNat_of_zero_le hy.1
  obtain ⟨C,rfl⟩:=Int.eq_ofNat_of_zero_le hc.1
  refine ⟨(((X+18446744073709551616-Y-C)%18446744073709551616:Nat):Int),((if X<Y+C then 1 else 0:Nat):Int),⟨by omega,by omega⟩,?_,?_,fun W=>?_⟩
  · split <;> simp
  · split <;> omega
  · rw [run_callFunc_extern Tryd.func89 kj kj kj (e:=sub64Entry) kj,run_sub64 X Y C (by omega)]
    rfl
theorem maskN (a : Int) (h:isW a):bits .and .u64 a 4294967295=a%4294967296:=by
  obtain ⟨A,rfl⟩:=Int.eq_ofNat_of_zero_le h.1
  have h:=bits_and_u64_nat A 4294967295 (by have:=h.2; omega) (by omega)
  have e:A&&&4294967295=A%4294967296:=Nat.and_two_pow_sub_one_eq_mod A 32
  rw [e] at h
  exact h
theorem wrap64 (a : Int) (h:isW a):IntKind.u64.wrap a=a:=by rw [IntKind.wrap_u64]; have:=h.1; have:=h.2; omega
theorem Qod (x y:Int) (hx:isW x) (hy:isW y) :
    ∃ hi lo:Int,isW hi∧isW lo∧lo+18446744073709551616*hi=x*y∧∀ w,Calls Tryd.prog 100 #[.int .u64 x,.int .u64 y] w (fun e w'=>e=.returned (.tuple #[.int .u64 hi,.int .u64 lo])∧w'=w):=by
  obtain ⟨X,rfl⟩:=Int.eq_ofNat_of_zero_le hx.1
  obtain ⟨Y,rfl⟩:=Int.eq_ofNat_of_zero_le hy.1
  have hX:X<18446744073709551616:=by have:=hx.2; omega
  have hY:Y<18446744073709551616:=by have:=hy.2; omega
  have hXY:X*Y<18446744073709551616*18446744073709551616:=Nat.mul_lt_mul'' hX hY
  refine ⟨((X*Y/18446744073709551616:Nat):Int),((X*Y%18446744073709551616:Nat):Int),⟨by omega,by omega⟩,⟨by omega,by omega⟩,?_,fun w=>?_⟩
  · rw [←Int.natCast_mul]; omega
  obtain ⟨bd,bt,bw,hhi⟩:=Lib.mul64_hi X Y hX hY
  have ba:=Lib.half_mul_le (a:=X/4294967296) (b:=Y/4294967296) (by omega) (by omega)
  have bb:=Lib.half_mul_le (a:=X/4294967296) (b:=Y%4294967296) (by omega) (by omega)
  have bc:=Lib.half_mul_le (a:=X%4294967296) (b:=Y/4294967296) (by omega) (by omega)
  have ba':X/4294967296*(Y/4294967296)<18446744073709551616:=by omega
  have bb':X/4294967296*(Y%4294967296)<18446744073709551616:=by omega
  have bc':X%4294967296*(Y/4294967296)<18446744073709551616:=by omega
  have bh1:X/4294967296*(Y/4294967296)+(X/4294967296*(Y%4294967296)+X%4294967296*(Y%4294967296)/4294967296)/4294967296<18446744073709551616:=by omega
  have bh:X/4294967296*(Y/4294967296)+(X/4294967296*(Y%4294967296)+X%4294967296*(Y%4294967296)/4294967296)/4294967296+((X/4294967296*(Y%4294967296)+X%4294967296*(Y%4294967296)/4294967296)%4294967296+X%4294967296*(Y/4294967296))/4294967296<18446744073709551616:=by omega
  go_enter Tryd.func100,Tryd.ntmps100
  go_wp2
  simp only [Mul64.maskN X hX,Mul64.maskN Y hY,Mul64.divN,Mul64.mulN,Mul64.addN,Mul64.wrapN _ bd,Mul64.wrapN _ bb',Mul64.wrapN _ bt,Mul64.maskN _ bt,Mul64.wrapN _ bc',Mul64.wrapN _ bw,Mul64.wrapN _ ba',Mul64.wrapN _ bh1,Mul64.wrapN _ bh,Mul64.wrapM (X*Y)]
  rw [hhi]
  go_ret2
  exact ⟨rfl,rfl⟩
theorem QaZ : isW 0:=⟨by decide,by decide⟩
theorem Qcc (x y a b:Int) (hx:isW x) (hy:isW y) (ha:isW a) (hb:isW b) :
    ∃ lo hi:Int,isW lo∧isW hi∧lo+18446744073709551616*hi=x*y+a+b∧∀ w,Calls Tryd.prog 91 #[.int .u64 x,.int .u64 y,.int .u64 a,.int .u64 b] w (fun e w'=>e=.returned (.tuple #[.int .u64 lo,.int .u64 hi])∧w'=w):=by
  obtain ⟨h0,l0,wh0,wl0,e0,c0⟩:=Qod x y hx hy
  obtain ⟨l1,k1,wl1,wk1,e1,c1⟩:=QdN l0 a 0 wl0 ha (by decide)
  obtain ⟨l2,k2,wl2,wk2,e2,c2⟩:=QdN l1 b 0 wl1 hb (by decide)
  have hm:x*y≤18446744073709551615*18446744073709551615:=Int.mul_le_mul (by have:=hx.2; omega) (by have:=hy.2; omega) hy.1 (by decide)
  have hn:0≤x*y:=Int.mul_nonneg hx.1 hy.1
  generalize x*y=xy at *
  unfold isW at *
  have w1:=wrap64 (h0+k1) (by unfold isW; omega)
  have w2:=wrap64 (h0+k1+k2) (by unfold isW; omega)
  refine ⟨l2,h0+k1+k2,wl2,by omega,by omega,fun w=>?_⟩
  have C0:=Lib.hid c0
  clear c0 hm hn hx hy ha hb wh0 wl0 wl1 wl2 wk1 wk2 e0 e1 e2
  go_enter Tryd.func91,Tryd.ntmps91
  go_wp2_with (go_at_call 100; (with_reducible refine (C0.out _).mono ?_); rintro e w' ⟨rfl,rfl⟩)
  go_ret2
  exact ⟨rfl,rfl⟩
end Go.Proofs.YtdoadngmgmdlbaaDoor.Field
end
section
namespace Go.Proofs.YtdoadngmgmdlbaaDoor.Field
open Go Go.RowKit
open Rely
def val (a b c d:Int):Int:=a+18446744073709551616*b+340282366920938463463374607431768211456*c+6277101735386680763835789423207666416102355444464034512896*d
def p : Int:=57896044618658097711785492504343953926634992332820282019728792003956564819949
def words (a b c d:Int):Value:=.agg #[.int .u64 a,.int .u64 b,.int .u64 c,.int .u64 d]
def num (n : Int):Value:=words (n%18446744073709551616) (n/18446744073709551616%18446744073709551616) (n/340282366920938463463374607431768211456%18446744073709551616) (n/6277101735386680763835789423207666416102355444464034512896%18446744073709551616)
theorem QdD (a b c d:Int) (ha:isW a) (hb:isW b) (hc:isW c) (hd:isW d):words a b c d=num (val a b c d):=by
  unfold isW at *
  unfold num val
  have e1:(a+18446744073709551616*b+340282366920938463463374607431768211456*c+6277101735386680763835789423207666416102355444464034512896*d)%18446744073709551616=a:=by omega
  have e2:(a+18446744073709551616*b+340282366920938463463374607431768211456*c+6277101735386680763835789423207666416102355444464034512896*d)/18446744073709551616%18446744073709551616=b:=by omega
  have e3:(a+18446744073709551616*b+340282366920938463463374607431768211456*c+6277101735386680763835789423207666416102355444464034512896*d)/340282366920938463463374607431768211456%18446744073709551616=c:=by omega
  have e4:(a+18446744073709551616*b+340282366920938463463374607431768211456*c+6277101735386680763835789423207666416102355444464034512896*d)/6277101735386680763835789423207666416102355444464034512896%18446744073709551616=d:=by omega
  rw [e1,e2,e3,e4]
theorem QeO {fn : Func} {tmps:Array Value} {W:World} {g:Nat} {t:Tmp} {a b c d:Int} (h:fn.results=#[.cell t 49])
    (hp:tmps.getD t undef=.pointer (some ⟨g,0,none⟩)) (hg:W.heap[g]? = some (.cells #[.int .u64 a,.int .u64 b,.int .u64 c,.int .u64 d] 49)) :
    (results fn tmps).run Tryd.prog W=.ok (words a b c d) W :=
  results_cell_row h tmps W g 49 _ (0,0) _ hp hg Tryd.underlying49 rfl kj
theorem QgX (a : Int) (h:isW a):bits .andNot .u64 a 9223372036854775808=a%9223372036854775808:=by
  obtain ⟨A,rfl⟩:=Int.eq_ofNat_of_zero_le h.1
  have h2:A<18446744073709551616:=by have:=h.2; omega
  have e:=u64_andNot_nat A 9223372036854775808 h2 (by decide)
  have m:A&&&9223372036854775807=A%9223372036854775808:=Nat.and_two_pow_sub_one_eq_mod A 63
  simp only [Nat.reduceSub,m] at e
  exact e
theorem reduced (a b c d:Int) (ha:isW a) (hb:isW b) (hc:isW c) (hd:isW d) (h:val a b c d<2*p) (w:World) :
    Calls Tryd.prog 81 #[.int .u64 a,.int .u64 b,.int .u64 c,.int .u64 d] w (Ret w (num (val a b c d%p))):=by
  obtain ⟨v0,c0,wv0,wc0,e0,r0⟩:=QdN a 19 0 ha (by unfold isW; decide) (by decide)
  obtain ⟨v1,c1,wv1,wc1,e1,r1⟩:=QdN b 0 c0 hb (by unfold isW; decide) wc0
  obtain ⟨v2,c2,wv2,wc2,e2,r2⟩:=QdN c 0 c1 hc (by unfold isW; decide) wc1
  have wv3:isW (d+c2):=by unfold isW val p at *; omega
  have o3:=QgX _ wv3
  have u3:=wrap64 _ wv3
  by_cases hlt:d+c2<9223372036854775808
  · have hz:(d+c2)/9223372036854775808=0:=by have:=wv3.1; omega
    have hv:num (val a b c d%p)=words a b c d:=by
      rw [Int.emod_eq_of_lt (by unfold isW val p at *; omega) (by unfold isW val p at *; omega),QdD a b c d ha hb hc hd]
    rw [hv]
    clear hv o3 e0 e1 e2 h
    go_enter Tryd.func81,Tryd.ntmps81
    go_wp2_with fail
    exact bodyPost_ret (QeO (t:=8) rfl rfl (heap_alloc_new w _)) rfl ⟨rfl,Qa8 _ _⟩
  · have hz:(d+c2)/9223372036854775808=1:=by have:=wv3.2; omega
    have hv:num (val a b c d%p)=words v0 v1 v2 ((d+c2)%9223372036854775808):=by
      rw [QdD v0 v1 v2 ((d+c2)%9223372036854775808) wv0 wv1 wv2 (by unfold isW; omega)]
      congr 1
      rw [←Int.sub_emod_right,Int.emod_eq_of_lt (by unfold isW val p at *; omega) (by unfold isW val p at *; omega)]
      unfold isW val p at *
      omega
    rw [hv]
    clear hv e0 e1 e2 h
    go_enter Tryd.func81,Tryd.ntmps81
    go_wp2_with fail
    exact bodyPost_ret (QeO (t:=8) rfl rfl (heap_alloc_new w _)) rfl ⟨rfl,Qa8 _ _⟩
end Go.Proofs.YtdoadngmgmdlbaaDoor.Field
end
section
namespace Go.Proofs.YtdoadngmgmdlbaaDoor.Field
open Go Go.RowKit
open Rely
def isN (a : Int):Prop:=0≤a∧a<p
theorem Qa0 (a : Int):isN (a%p):=⟨Int.emod_nonneg _ (by unfold p; decide),Int.emod_lt_of_pos _ (by unfold p; decide)⟩
theorem QbV (a : Int) (h:isN a):∃ x0 x1 x2 x3:Int,isW x0∧isW x1∧isW x2∧isW x3∧val x0 x1 x2 x3=a∧num a=words x0 x1 x2 x3:=by
  refine ⟨a%18446744073709551616,a/18446744073709551616%18446744073709551616,a/340282366920938463463374607431768211456%18446744073709551616,a/6277101735386680763835789423207666416102355444464034512896%18446744073709551616,?_,?_,?_,?_,?_,rfl⟩
  all_goals unfold isN p at h
  all_goals first | (unfold isW; omega) | (unfold val; omega)
def numA (n : Int):Array Value:=#[.int .u64 (n%18446744073709551616),.int .u64 (n/18446744073709551616%18446744073709551616),.int .u64 (n/340282366920938463463374607431768211456%18446744073709551616),.int .u64 (n/6277101735386680763835789423207666416102355444464034512896%18446744073709551616)]
theorem Qmq (n : Int):num n=.agg (numA n):=rfl
theorem QaC : (Tryd.prog.info? 49).map (·.size)=some 4:=kj
theorem QcQ {fn : Func} {tmps:Array Value} {W:World} {g:Nat} {t:Tmp} {n:Int} (h:fn.results=#[.cell t 49])
    (hp:tmps.getD t undef=.pointer (some ⟨g,0,none⟩)) (hg:W.heap[g]? = some (.cells (numA n) 49)) :
    (results fn tmps).run Tryd.prog W=.ok (num n) W :=
  results_cell_row h tmps W g 49 _ (0,0) _ hp hg Tryd.underlying49 rfl QaC
theorem Qb5 (w : World) (a b c:Obj):(((w.alloc a).alloc b).alloc c).heap[w.heap.size+2]? = some c:=by
  have:=heap_alloc_new ((w.alloc a).alloc b) c
  simpa using this
theorem below_setRow {B : Nat} {a w:World} (h:Below B a w) {g:Nat} (hp:B≤g) (cs:Array Value):Below B a (w.setRow g cs) :=
  ⟨h.os,h.tape,h.output,by simpa using h.size,fun k hk=>(setRow_other w g k cs (by omega)).trans (h.block k hk)⟩
theorem ext3 (w : World) (a b c:Obj):Ext w (((w.alloc a).alloc b).alloc c):=Ext.trans (Ext.trans (Qa8 _ _) (Qa8 _ _)) (Qa8 _ _)
theorem Qbh (n : Int):(numA n).all (·.oneCell')=true:=by simp [numA,Value.oneCell']
theorem add (a b:Int) (ha:isN a) (hb:isN b) (w:World) :
    Calls Tryd.prog 68 #[num a,num b] w (Ret w (num ((a+b)%p))):=by
  obtain ⟨x0,x1,x2,x3,wx0,wx1,wx2,wx3,ex,eX⟩:=QbV a ha
  obtain ⟨y0,y1,y2,y3,wy0,wy1,wy2,wy3,ey,eY⟩:=QbV b hb
  obtain ⟨v0,c0,wv0,wc0,e0,r0⟩:=QdN x0 y0 0 wx0 wy0 (by decide)
  obtain ⟨v1,c1,wv1,wc1,e1,r1⟩:=QdN x1 y1 c0 wx1 wy1 wc0
  obtain ⟨v2,c2,wv2,wc2,e2,r2⟩:=QdN x2 y2 c1 wx2 wy2 wc1
  have wv3:isW (x3+y3+c2):=by unfold isN isW val p at *; omega
  have u3:=wrap64 _ wv3
  have u3':=wrap64 (x3+y3) (by unfold isW at *; omega)
  have hs:val v0 v1 v2 (x3+y3+c2)=a+b:=by unfold val at *; omega
  have C:∀ w,Calls Tryd.prog 81 #[.int .u64 v0,.int .u64 v1,.int .u64 v2,.int .u64 (x3+y3+c2)] w (Ret w (num ((a+b)%p))):=fun w=>by
    have:=reduced v0 v1 v2 (x3+y3+c2) wv0 wv1 wv2 wv3 (by rw [hs]; unfold isN at *; omega) w
    rw [hs] at this
    exact this
  rw [eX,eY]
  generalize (a+b)%p=r at *
  have HC:=Lib.hid C
  clear C hs e0 e1 e2 ex ey eX eY ha hb
  unfold words
  go_enter Tryd.func68,Tryd.ntmps68
  go_wp2_with first
    | (go_at_call 81
       (with_reducible refine (HC.out _).mono ?_)
       rintro e w' ⟨rfl,hw⟩)
    | (with_reducible show wpList _ _ _ ((⟨_,.store 49 _ _,_,_,_,_⟩:Oper)::_) _ _
       refine wpList_store_row rfl 49 _ _ rfl (w.heap.size+2) (numA r) rfl rfl 49 _ ((hw.block _ (by simp)).trans (Qb5 _ _ _ _)) QaC rfl (Qbh _) ?_)
  exact bodyPost_ret (QcQ (t:=4) rfl rfl (setRow_heap _ _ _ _ _ _ ((hw.block _ (by simp)).trans (Qb5 _ _ _ _)))) rfl ⟨rfl,below_setRow (Ext.trans (ext3 _ _ _ _) hw) (by omega) _⟩
theorem Ql9 (r : Nat) (h:r<9223372036854775808):(9223372036854775808+r)^^^9223372036854775808=r:=by
  have e:9223372036854775808+r=9223372036854775808|||r:=by
    have:=Nat.two_pow_add_eq_or_of_lt (i:=63) (b:=r) h 1
    simpa using this
  have h2:(9223372036854775808:Nat)=2^63:=by decide
  rw [e]
  apply Nat.eq_of_testBit_eq
  intro i
  rw [Nat.testBit_xor,Nat.testBit_or,h2,Nat.testBit_two_pow]
  by_cases hi:63=i
  · subst hi
    rw [Nat.testBit_lt_two_pow (h2▸h)]
    simp
  · simp [hi]
theorem Qke (a : Int) (h:9223372036854775808≤a∧a<18446744073709551616):bits .xor .u64 a 9223372036854775808=a-9223372036854775808:=by
  rw [u64_xor a _ (by omega) (by omega) (by omega) (by omega)]
  obtain ⟨A,rfl⟩:=Int.eq_ofNat_of_zero_le (show 0≤a by omega)
  obtain ⟨r,rfl⟩:∃ r,A=9223372036854775808+r:=⟨A-9223372036854775808,by omega⟩
  have:=Ql9 r (by omega)
  simp only [Int.toNat_natCast]
  have e:(9223372036854775808:Int).toNat=9223372036854775808:=rfl
  rw [e,this]
  omega
theorem Qkd (a : Int) (h:isW a):bits .xor .u64 a 0=a:=by
  rw [u64_xor a _ h.1 h.2 (by omega) (by omega)]
  simp
  have:=h.1
  omega
theorem Qlh (v0 v1 v2 v3 u0 u1 u2 d0 d1 d2:Int) (f0:u0-18446744073709551616*d0=v0-19-0) (f1:u1-18446744073709551616*d1=v1-0-d0) (f2:u2-18446744073709551616*d2=v2-0-d1) :
    val u0 u1 u2 (v3-d2)=val v0 v1 v2 v3-19:=by unfold val; omega
theorem QeJ (a b c d:Int) (ha:isW a) (hb:isW b) (hc:isW c) (hd:isW d):0≤val a b c d∧val a b c d<115792089237316195423570985008687907853269984665640564039457584007913129639936:=by unfold isW at *; unfold val; omega
theorem Qil (u0 u1 u2 t V:Int) (h0:isW u0) (h1:isW u1) (h2:isW u2) (e:val u0 u1 u2 t=V)
    (l:57896044618658097711785492504343953926634992332820282019728792003956564819968≤V) (h:V<115792089237316195423570985008687907853269984665640564039457584007913129639936) :
    9223372036854775808≤t∧t<18446744073709551616:=by unfold isW at *; unfold val at e; omega
theorem QlF (a b c d:Int):val a b c (d-9223372036854775808)=val a b c d-57896044618658097711785492504343953926634992332820282019728792003956564819968:=by unfold val; omega
theorem sub (a b:Int) (ha:isN a) (hb:isN b) (w:World) :
    Calls Tryd.prog 69 #[num a,num b] w (Ret w (num ((a-b)%p))):=by
  obtain ⟨x0,x1,x2,x3,wx0,wx1,wx2,wx3,ex,eX⟩:=QbV a ha
  obtain ⟨y0,y1,y2,y3,wy0,wy1,wy2,wy3,ey,eY⟩:=QbV b hb
  obtain ⟨v0,c0,wv0,wc0,e0,r0⟩:=QdT x0 y0 0 wx0 wy0 (by decide)
  obtain ⟨v1,c1,wv1,wc1,e1,r1⟩:=QdT x1 y1 c0 wx1 wy1 wc0
  obtain ⟨v2,c2,wv2,wc2,e2,r2⟩:=QdT x2 y2 c1 wx2 wy2 wc1
  obtain ⟨v3,c3,wv3,wc3,e3,r3⟩:=QdT x3 y3 c2 wx3 wy3 wc2
  have hs:val v0 v1 v2 v3=a-b+115792089237316195423570985008687907853269984665640564039457584007913129639936*c3:=by unfold val at *; omega
  rw [eX,eY]
  rcases (by omega:c3=0∨c3=1) with rfl | rfl
  · obtain ⟨u0,d0,wu0,wd0,f0,s0⟩:=QdT v0 0 0 wv0 QaZ (by decide)
    obtain ⟨u1,d1,wu1,wd1,f1,s1⟩:=QdT v1 0 d0 wv1 QaZ wd0
    obtain ⟨u2,d2,wu2,wd2,f2,s2⟩:=QdT v2 0 d1 wv2 QaZ wd1
    have k0:d0=0:=by unfold isW at *; omega
    subst k0
    have k1:d1=0:=by unfold isW at *; omega
    subst k1
    have k2:d2=0:=by unfold isW at *; omega
    subst k2
    have hr:num ((a-b)%p)=words u0 u1 u2 v3:=by
      rw [QdD _ _ _ _ wu0 wu1 wu2 wv3,Int.emod_eq_of_lt (by unfold isN isW val at *; omega) (by unfold isN isW val at *; omega)]
      congr 1
      unfold val at *
      omega
    have w3:=wrap64 v3 wv3
    have z3:=Qkd v3 wv3
    rw [hr]
    clear hr hs e0 e1 e2 e3 f0 f1 f2 ex ey eX eY ha hb
    unfold words
    go_enter Tryd.func69,Tryd.ntmps69
    go_wp2_with fail
    exact bodyPost_ret (QeO (t:=4) rfl rfl (Qb5 _ _ _ _)) rfl ⟨rfl,ext3 _ _ _ _⟩
  · obtain ⟨u0,d0,wu0,wd0,f0,s0⟩:=QdT v0 19 0 wv0 (by unfold isW; decide) (by decide)
    obtain ⟨u1,d1,wu1,wd1,f1,s1⟩:=QdT v1 0 d0 wv1 QaZ wd0
    obtain ⟨u2,d2,wu2,wd2,f2,s2⟩:=QdT v2 0 d1 wv2 QaZ wd1
    have hu:=Qlh v0 v1 v2 v3 u0 u1 u2 d0 d1 d2 f0 f1 f2
    have hlo:=QeJ v0 v1 v2 v3 wv0 wv1 wv2 wv3
    have hV:val u0 u1 u2 (v3-d2)=a-b+115792089237316195423570985008687907853269984665640564039457584007913129639917:=by rw [hu,hs]; omega
    have hb3:=Qil u0 u1 u2 (v3-d2) _ wu0 wu1 wu2 hV (by have:=ha.1; have:=hb.2; unfold p at this; omega) (by rw [hs] at hlo; omega)
    have hr:num ((a-b)%p)=words u0 u1 u2 (v3-d2-9223372036854775808):=by
      rw [QdD _ _ _ _ wu0 wu1 wu2 (by unfold isW; omega),←Int.add_emod_right,Int.emod_eq_of_lt (by have:=ha.1; have:=hb.2; omega) (by rw [hs] at hlo; omega)]
      congr 1
      have e:=QlF u0 u1 u2 (v3-d2)
      rw [hV] at e
      rw [e]
      unfold p
      omega
    have w3:=wrap64 (v3-d2) (by unfold isW; omega)
    have z3:=Qke (v3-d2) hb3
    rw [hr]
    clear hr hs e0 e1 e2 e3 f0 f1 f2 ex ey eX eY ha hb hb3
    unfold words
    go_enter Tryd.func69,Tryd.ntmps69
    go_wp2_with fail
    exact bodyPost_ret (QeO (t:=4) rfl rfl (Qb5 _ _ _ _)) rfl ⟨rfl,ext3 _ _ _ _⟩
end Go.Proofs.YtdoadngmgmdlbaaDoor.Field
end
section
namespace Go.Proofs.YtdoadngmgmdlbaaDoor.Field
open Go Go.RowKit
open Rely
theorem Qmu (x0 x1 x2 x3 y0 y1 y2 y3:Int):val x0 x1 x2 x3*val y0 y1 y2 y3=(x0*y0)+18446744073709551616*(x0*y1)+340282366920938463463374607431768211456*(x0*y2)+6277101735386680763835789423207666416102355444464034512896*(x0*y3)+18446744073709551616*(x1*y0)+340282366920938463463374607431768211456*(x1*y1)+6277101735386680763835789423207666416102355444464034512896*(x1*y2)+115792089237316195423570985008687907853269984665640564039457584007913129639936*(x1*y3)+340282366920938463463374607431768211456*(x2*y0)+6277101735386680763835789423207666416102355444464034512896*(x2*y1)+115792089237316195423570985008687907853269984665640564039457584007913129639936*(x2*y2)+2135987035920910082395021706169552114602704522356652769947041607822219725780640550022962086936576*(x2*y3)+6277101735386680763835789423207666416102355444464034512896*(x3*y0)+115792089237316195423570985008687907853269984665640564039457584007913129639936*(x3*y1)+2135987035920910082395021706169552114602704522356652769947041607822219725780640550022962086936576*(x3*y2)+39402006196394479212279040100143613805079739270465446667948293404245721771497210611414266254884915640806627990306816*(x3*y3):=by
  unfold val
  grind
theorem QkH (p00 p01 p02 p03 p10 p11 p12 p13 p20 p21 p22 p23 p30 p31 p32 p33 l00 h00 l01 h01 l02 h02 l03 h03 l10 h10 l11 h11 l12 h12 l13 h13 l20 h20 l21 h21 l22 h22 l23 h23 l30 h30 l31 h31 l32 h32 l33 h33:Int) (q00:l00+18446744073709551616*h00=p00+0+0) (q01:l01+18446744073709551616*h01=p01+0+h00) (q02:l02+18446744073709551616*h02=p02+0+h01) (q03:l03+18446744073709551616*h03=p03+0+h02) (q10:l10+18446744073709551616*h10=p10+l01+0) (q11:l11+18446744073709551616*h11=p11+l02+h10) (q12:l12+18446744073709551616*h12=p12+l03+h11) (q13:l13+18446744073709551616*h13=p13+h03+h12) (q20:l20+18446744073709551616*h20=p20+l11+0) (q21:l21+18446744073709551616*h21=p21+l12+h20) (q22:l22+18446744073709551616*h22=p22+l13+h21) (q23:l23+18446744073709551616*h23=p23+h13+h22) (q30:l30+18446744073709551616*h30=p30+l21+0) (q31:l31+18446744073709551616*h31=p31+l22+h30) (q32:l32+18446744073709551616*h32=p32+l23+h31) (q33:l33+18446744073709551616*h33=p33+h23+h32) :
    l00+18446744073709551616*l10+340282366920938463463374607431768211456*l20+6277101735386680763835789423207666416102355444464034512896*l30+115792089237316195423570985008687907853269984665640564039457584007913129639936*l31+2135987035920910082395021706169552114602704522356652769947041607822219725780640550022962086936576*l32+39402006196394479212279040100143613805079739270465446667948293404245721771497210611414266254884915640806627990306816*l33+726838724295606890549323807888004534353641360687318060281490199180639288113397923326191050713763565560762521606266177933534601628614656*h33=p00+18446744073709551616*p01+340282366920938463463374607431768211456*p02+6277101735386680763835789423207666416102355444464034512896*p03+18446744073709551616*p10+340282366920938463463374607431768211456*p11+6277101735386680763835789423207666416102355444464034512896*p12+115792089237316195423570985008687907853269984665640564039457584007913129639936*p13+340282366920938463463374607431768211456*p20+6277101735386680763835789423207666416102355444464034512896*p21+115792089237316195423570985008687907853269984665640564039457584007913129639936*p22+2135987035920910082395021706169552114602704522356652769947041607822219725780640550022962086936576*p23+6277101735386680763835789423207666416102355444464034512896*p30+115792089237316195423570985008687907853269984665640564039457584007913129639936*p31+2135987035920910082395021706169552114602704522356652769947041607822219725780640550022962086936576*p32+39402006196394479212279040100143613805079739270465446667948293404245721771497210611414266254884915640806627990306816*p33:=by omega
theorem QkI (w0 w1 w2 w3 w4 w5 w6 w7 r0 r1 r2 r3 k0 k1 k2 k3 v0 v1 v2 c0 c1 c2 Z:Int) (hr3:isW r3) (hz:w0+18446744073709551616*w1+340282366920938463463374607431768211456*w2+6277101735386680763835789423207666416102355444464034512896*w3+115792089237316195423570985008687907853269984665640564039457584007913129639936*w4+2135987035920910082395021706169552114602704522356652769947041607822219725780640550022962086936576*w5+39402006196394479212279040100143613805079739270465446667948293404245721771497210611414266254884915640806627990306816*w6+726838724295606890549323807888004534353641360687318060281490199180639288113397923326191050713763565560762521606266177933534601628614656*w7=Z)
    (g0:r0+18446744073709551616*k0=w4*38+w0+0) (g1:r1+18446744073709551616*k1=w5*38+w1+k0) (g2:r2+18446744073709551616*k2=w6*38+w2+k1) (g3:r3+18446744073709551616*k3=w7*38+w3+k2)
    (f0:v0+18446744073709551616*c0=r0+19*(2*k3+r3/9223372036854775808)+0) (f1:v1+18446744073709551616*c1=r1+0+c0) (f2:v2+18446744073709551616*c2=r2+0+c1) :
    val v0 v1 v2 (r3%9223372036854775808+c2)=Z-p*(2*(w4+18446744073709551616*w5+340282366920938463463374607431768211456*w6+6277101735386680763835789423207666416102355444464034512896*w7)+(2*k3+r3/9223372036854775808)):=by
  have e:=Int.emod_add_mul_ediv r3 9223372036854775808
  unfold val p
  omega
theorem Qj1 (r0 r1 r2 r3 k3 v0 v1 v2 c0 c1 c2:Int) (h0:isW r0) (h1:isW r1) (h2:isW r2) (h3:isW r3) (hk:0≤k3∧k3≤39)
    (f0:v0+18446744073709551616*c0=r0+19*(2*k3+r3/9223372036854775808)+0) (f1:v1+18446744073709551616*c1=r1+0+c0) (f2:v2+18446744073709551616*c2=r2+0+c1) :
    val v0 v1 v2 (r3%9223372036854775808+c2)<2*p:=by
  unfold isW at *
  unfold val p
  omega
theorem QkN (w7 w3 k2 r3 k3:Int) (h1:isW w7) (h2:isW w3) (h3:isW k2) (h4:isW k3) (h5:isW r3) (g3:r3+18446744073709551616*k3=w7*38+w3+k2):0≤k3∧k3≤39:=by unfold isW at *; omega
theorem QlI (r : Int) (h:isW r):0≤r/9223372036854775808∧r/9223372036854775808≤1:=by unfold isW at *; omega
theorem Qmx (r c:Int) (h:isW r) (hc:0≤c∧c≤1):isW (r%9223372036854775808+c):=by unfold isW at *; omega
theorem Qnz (k t:Int) (hk:0≤k∧k≤39) (ht:0≤t∧t≤1):bits .or .u64 (k*2) t=2*k+t:=by
  have h:∀ a:Fin 40,∀ b:Fin 2,bits .or .u64 ((a.val:Int)*2) (b.val:Int)=2*(a.val:Int)+(b.val:Int):=by decide +kernel
  have:=h ⟨k.toNat,by omega⟩ ⟨t.toNat,by omega⟩
  simpa [Int.toNat_of_nonneg hk.1,Int.toNat_of_nonneg ht.1] using this
set_option maxRecDepth 100000 in
theorem mul (a b:Int) (ha:isN a) (hb:isN b) (w:World) :
    Calls Tryd.prog 66 #[num a,num b] w (Ret w (num ((a*b)%p))):=by
  obtain ⟨x0,x1,x2,x3,wx0,wx1,wx2,wx3,ex,eX⟩:=QbV a ha
  obtain ⟨y0,y1,y2,y3,wy0,wy1,wy2,wy3,ey,eY⟩:=QbV b hb
  obtain ⟨l00,h00,wl00,wh00,q00,C00⟩:=Qcc x0 y0 0 0 wx0 wy0 QaZ QaZ
  obtain ⟨l01,h01,wl01,wh01,q01,C01⟩:=Qcc x0 y1 0 h00 wx0 wy1 QaZ wh00
  obtain ⟨l02,h02,wl02,wh02,q02,C02⟩:=Qcc x0 y2 0 h01 wx0 wy2 QaZ wh01
  obtain ⟨l03,h03,wl03,wh03,q03,C03⟩:=Qcc x0 y3 0 h02 wx0 wy3 QaZ wh02
  obtain ⟨l10,h10,wl10,wh10,q10,C10⟩:=Qcc x1 y0 l01 0 wx1 wy0 wl01 QaZ
  obtain ⟨l11,h11,wl11,wh11,q11,C11⟩:=Qcc x1 y1 l02 h10 wx1 wy1 wl02 wh10
  obtain ⟨l12,h12,wl12,wh12,q12,C12⟩:=Qcc x1 y2 l03 h11 wx1 wy2 wl03 wh11
  obtain ⟨l13,h13,wl13,wh13,q13,C13⟩:=Qcc x1 y3 h03 h12 wx1 wy3 wh03 wh12
  obtain ⟨l20,h20,wl20,wh20,q20,C20⟩:=Qcc x2 y0 l11 0 wx2 wy0 wl11 QaZ
  obtain ⟨l21,h21,wl21,wh21,q21,C21⟩:=Qcc x2 y1 l12 h20 wx2 wy1 wl12 wh20
  obtain ⟨l22,h22,wl22,wh22,q22,C22⟩:=Qcc x2 y2 l13 h21 wx2 wy2 wl13 wh21
  obtain ⟨l23,h23,wl23,wh23,q23,C23⟩:=Qcc x2 y3 h13 h22 wx2 wy3 wh13 wh22
  obtain ⟨l30,h30,wl30,wh30,q30,C30⟩:=Qcc x3 y0 l21 0 wx3 wy0 wl21 QaZ
  obtain ⟨l31,h31,wl31,wh31,q31,C31⟩:=Qcc x3 y1 l22 h30 wx3 wy1 wl22 wh30
  obtain ⟨l32,h32,wl32,wh32,q32,C32⟩:=Qcc x3 y2 l23 h31 wx3 wy2 wl23 wh31
  obtain ⟨l33,h33,wl33,wh33,q33,C33⟩:=Qcc x3 y3 h23 h32 wx3 wy3 wh23 wh32
  obtain ⟨r0,k0,wr0,wk0,g0,D0⟩:=Qcc l31 38 l00 0 wl31 (by unfold isW; decide) wl00 QaZ
  obtain ⟨r1,k1,wr1,wk1,g1,D1⟩:=Qcc l32 38 l10 k0 wl32 (by unfold isW; decide) wl10 wk0
  obtain ⟨r2,k2,wr2,wk2,g2,D2⟩:=Qcc l33 38 l20 k1 wl33 (by unfold isW; decide) wl20 wk1
  obtain ⟨r3,k3,wr3,wk3,g3,D3⟩:=Qcc h33 38 l30 k2 wh33 (by unfold isW; decide) wl30 wk2
  have hk3:=QkN h33 l30 k2 r3 k3 wh33 wl30 wk2 wk3 wr3 g3
  have ht:=QlI r3 wr3
  have ob:=Qnz k3 (r3/9223372036854775808) hk3 ht
  have u1:=wrap64 (k3*2) (by unfold isW; omega)
  have u2:=wrap64 (19*(2*k3+r3/9223372036854775808)) (by unfold isW; omega)
  obtain ⟨v0,c0,wv0,wc0,f0,s0⟩:=QdN r0 (19*(2*k3+r3/9223372036854775808)) 0 wr0 (by unfold isW; omega) (by decide)
  obtain ⟨v1,c1,wv1,wc1,f1,s1⟩:=QdN r1 0 c0 wr1 QaZ wc0
  obtain ⟨v2,c2,wv2,wc2,f2,s2⟩:=QdN r2 0 c1 wr2 QaZ wc1
  have to:=QgX r3 wr3
  have wv3:isW (r3%9223372036854775808+c2):=Qmx r3 c2 wr3 wc2
  have u3:=wrap64 _ wv3
  have Z:=(QkH (x0*y0) (x0*y1) (x0*y2) (x0*y3) (x1*y0) (x1*y1) (x1*y2) (x1*y3) (x2*y0) (x2*y1) (x2*y2) (x2*y3) (x3*y0) (x3*y1) (x3*y2) (x3*y3) l00 h00 l01 h01 l02 h02 l03 h03 l10 h10 l11 h11 l12 h12 l13 h13 l20 h20 l21 h21 l22 h22 l23 h23 l30 h30 l31 h31 l32 h32 l33 h33 q00 q01 q02 q03 q10 q11 q12 q13 q20 q21 q22 q23 q30 q31 q32 q33).trans (Qmu x0 x1 x2 x3 y0 y1 y2 y3).symm
  rw [ex,ey] at Z
  have F:=QkI l00 l10 l20 l30 l31 l32 l33 h33 r0 r1 r2 r3 k0 k1 k2 k3 v0 v1 v2 c0 c1 c2 _ wr3 Z g0 g1 g2 g3 f0 f1 f2
  have C:∀ w,Calls Tryd.prog 81 #[.int .u64 v0,.int .u64 v1,.int .u64 v2,.int .u64 (r3%9223372036854775808+c2)] w (Ret w (num ((a*b)%p))):=fun w=>by
    have:=reduced v0 v1 v2 (r3%9223372036854775808+c2) wv0 wv1 wv2 wv3 (Qj1 r0 r1 r2 r3 k3 v0 v1 v2 c0 c1 c2 wr0 wr1 wr2 wr3 hk3 f0 f1 f2) w
    rw [F,Int.sub_mul_emod_self_left] at this
    exact this
  clear F Z
  rw [eX,eY]
  generalize (a*b)%p=r at *
  have HC00:=Lib.hid C00
  have HC01:=Lib.hid C01
  have HC02:=Lib.hid C02
  have HC03:=Lib.hid C03
  have HC10:=Lib.hid C10
  have HC11:=Lib.hid C11
  have HC12:=Lib.hid C12
  have HC13:=Lib.hid C13
  have HC20:=Lib.hid C20
  have HC21:=Lib.hid C21
  have HC22:=Lib.hid C22
  have HC23:=Lib.hid C23
  have HC30:=Lib.hid C30
  have HC31:=Lib.hid C31
  have HC32:=Lib.hid C32
  have HC33:=Lib.hid C33
  have HD0:=Lib.hid D0
  have HD1:=Lib.hid D1
  have HD2:=Lib.hid D2
  have HD3:=Lib.hid D3
  have HC:=Lib.hid C
  clear C C00 C01 C02 C03 C10 C11 C12 C13 C20 C21 C22 C23 C30 C31 C32 C33 D0 D1 D2 D3 q00 q01 q02 q03 q10 q11 q12 q13 q20 q21 q22 q23 q30 q31 q32 q33 g0 g1 g2 g3 f0 f1 f2 ex ey eX eY ha hb
  unfold words
  go_enter Tryd.func66,Tryd.ntmps66
  go_wp2_with first
    | (go_at_call 91
       first
         | (with_reducible refine (HC00.out _).mono ?_)
         | (with_reducible refine (HC01.out _).mono ?_)
         | (with_reducible refine (HC02.out _).mono ?_)
         | (with_reducible refine (HC03.out _).mono ?_)
         | (with_reducible refine (HC10.out _).mono ?_)
         | (with_reducible refine (HC11.out _).mono ?_)
         | (with_reducible refine (HC12.out _).mono ?_)
         | (with_reducible refine (HC13.out _).mono ?_)
         | (with_reducible refine (HC20.out _).mono ?_)
         | (with_reducible refine (HC21.out _).mono ?_)
         | (with_reducible refine (HC22.out _).mono ?_)
         | (with_reducible refine (HC23.out _).mono ?_)
         | (with_reducible refine (HC30.out _).mono ?_)
         | (with_reducible refine (HC31.out _).mono ?_)
         | (with_reducible refine (HC32.out _).mono ?_)
         | (with_reducible refine (HC33.out _).mono ?_)
         | (with_reducible refine (HD0.out _).mono ?_)
         | (with_reducible refine (HD1.out _).mono ?_)
         | (with_reducible refine (HD2.out _).mono ?_)
         | (with_reducible refine (HD3.out _).mono ?_)
       rintro e w' ⟨rfl,rfl⟩)
    | (go_at_call 81
       (with_reducible refine (HC.out _).mono ?_)
       rintro e w' ⟨rfl,hw⟩)
    | (with_reducible show wpList _ _ _ ((⟨_,.store 49 _ _,_,_,_,_⟩:Oper)::_) _ _
       refine wpList_store_row rfl 49 _ _ rfl (w.heap.size+2) (numA r) rfl rfl 49 _ ((hw.block _ (by simp)).trans (Qb5 _ _ _ _)) QaC rfl (Qbh _) ?_)
  exact bodyPost_ret (QcQ (t:=4) rfl rfl (setRow_heap _ _ _ _ _ _ ((hw.block _ (by simp)).trans (Qb5 _ _ _ _)))) rfl ⟨rfl,below_setRow (Ext.trans (ext3 _ _ _ _) hw) (by omega) _⟩
end Go.Proofs.YtdoadngmgmdlbaaDoor.Field
end
section
namespace Go.Proofs.YtdoadngmgmdlbaaDoor.Field
open Go Go.RowKit
open Rely
theorem Qmp (a : Int) (h:isW a):bits .and .u64 a 1=a%2:=by
  obtain ⟨A,rfl⟩:=Int.eq_ofNat_of_zero_le h.1
  have h:=bits_and_u64_nat A 1 (by have:=h.2; omega) (by omega)
  have e:A&&&1=A%2:=Nat.and_two_pow_sub_one_eq_mod A 1
  rw [e] at h
  exact h
theorem odd (a : Int) (ha:isN a) (w:World):Calls Tryd.prog 51 #[num a] w (Ret w (.bool (a%2==1))):=by
  obtain ⟨x0,x1,x2,x3,wx0,wx1,wx2,wx3,ex,eX⟩:=QbV a ha
  have o:=Qmp x0 wx0
  have e:a%2=x0%2:=by unfold val at ex; omega
  rw [eX,e]
  clear ex eX ha
  unfold words
  go_enter Tryd.func51,Tryd.ntmps51
  go_wp2_with fail
  go_ret
  exact ⟨rfl,Qa8 _ _⟩
theorem equal (a b:Int) (ha:isN a) (hb:isN b) (w:World):Calls Tryd.prog 94 #[num a,num b] w (Ret w (.bool (a==b))):=by
  obtain ⟨x0,x1,x2,x3,wx0,wx1,wx2,wx3,ex,eX⟩:=QbV a ha
  obtain ⟨y0,y1,y2,y3,wy0,wy1,wy2,wy3,ey,eY⟩:=QbV b hb
  have q:∀ W,(Op.equalIn 9999 47 (.agg #[.int .u64 x0,.int .u64 x1,.int .u64 x2,.int .u64 x3]) (.agg #[.int .u64 y0,.int .u64 y1,.int .u64 y2,.int .u64 y3])).run Tryd.prog W=.ok (a==b) W:=fun W=>by
    have h:=QcA (P:=Tryd.prog) W 9997 Tryd.underlying47 Tryd.underlying46 kj [x0,x1,x2,x3] [y0,y1,y2,y3] rfl rfl
    have e:decide ([x0,x1,x2,x3]=[y0,y1,y2,y3])=(a==b):=by
      have:[x0,x1,x2,x3]=[y0,y1,y2,y3]↔a=b:=by
        simp only [List.cons.injEq,and_true]
        unfold isW val at *
        constructor <;> omega
      rw [Bool.eq_iff_iff]
      simp only [decide_eq_true_eq,beq_iff_eq,this]
    rw [e] at h
    exact h
  have HQ:=Lib.hid q
  clear q
  rw [eX,eY]
  have q:=HQ.out
  clear HQ ex ey eX eY
  generalize (a==b)=r at *
  unfold words
  cases r
  all_goals
    go_enter Tryd.func94,Tryd.ntmps94
    go_wp2_with fail
    go_ret
    exact ⟨rfl,Ext.trans (Qa8 _ _) (Qa8 _ _)⟩
theorem QeK (n : Int) (h:0≤n∧n<9223372036854775808) (w:World):Calls Tryd.prog 67 #[.int .i64 n] w (Ret w (num (n%p))):=by
  have hw:=wrap64 n (by unfold isW; omega)
  have e:num (n%p)=words n 0 0 0:=by
    rw [QdD n 0 0 0 (by unfold isW; omega) QaZ QaZ QaZ]
    congr 1
    unfold val p
    omega
  rw [e]
  have hlt:¬ n<0:=by omega
  unfold words
  go_enter Tryd.func67,Tryd.ntmps67
  go_wp2_with fail
  exact bodyPost_ret (QeO (t:=2) rfl rfl (heap_alloc_new w _)) rfl ⟨rfl,Qa8 _ _⟩
end Go.Proofs.YtdoadngmgmdlbaaDoor.Field
end
section
namespace Go.Proofs.YtdoadngmgmdlbaaDoor.Field
open Go Go.RowKit
open Rely
def Qa1 (n : Int) (i:Nat):Int:=n/256^i%256
def part (n : Int) (k:Nat):List Int:=(List.range 32).map fun i=>if i<k then Qa1 n i else 0
def Qao (n : Int):List Int:=part n 32
theorem wb0 (x0 x1 x2 x3:Int) (h0:isW x0) (h1:isW x1) (h2:isW x2) (h3:isW x3):x0/2^(8*(0%8))%256=Qa1 (val x0 x1 x2 x3) 0:=by
  have e:(2:Int)^(8*(0%8))=1:=by decide
  have f:(256:Int)^0=1:=by decide
  unfold Qa1
  rw [e,f]
  unfold isW val at *
  omega
theorem wb1 (x0 x1 x2 x3:Int) (h0:isW x0) (h1:isW x1) (h2:isW x2) (h3:isW x3):x0/2^(8*(1%8))%256=Qa1 (val x0 x1 x2 x3) 1:=by
  have e:(2:Int)^(8*(1%8))=256:=by decide
  have f:(256:Int)^1=256:=by decide
  unfold Qa1
  rw [e,f]
  unfold isW val at *
  omega
theorem wb2 (x0 x1 x2 x3:Int) (h0:isW x0) (h1:isW x1) (h2:isW x2) (h3:isW x3):x0/2^(8*(2%8))%256=Qa1 (val x0 x1 x2 x3) 2:=by
  have e:(2:Int)^(8*(2%8))=65536:=by decide
  have f:(256:Int)^2=65536:=by decide
  unfold Qa1
  rw [e,f]
  unfold isW val at *
  omega
theorem wb3 (x0 x1 x2 x3:Int) (h0:isW x0) (h1:isW x1) (h2:isW x2) (h3:isW x3):x0/2^(8*(3%8))%256=Qa1 (val x0 x1 x2 x3) 3:=by
  have e:(2:Int)^(8*(3%8))=16777216:=by decide
  have f:(256:Int)^3=16777216:=by decide
  unfold Qa1
  rw [e,f]
  unfold isW val at *
  omega
theorem wb4 (x0 x1 x2 x3:Int) (h0:isW x0) (h1:isW x1) (h2:isW x2) (h3:isW x3):x0/2^(8*(4%8))%256=Qa1 (val x0 x1 x2 x3) 4:=by
  have e:(2:Int)^(8*(4%8))=4294967296:=by decide
  have f:(256:Int)^4=4294967296:=by decide
  unfold Qa1
  rw [e,f]
  unfold isW val at *
  omega
theorem wb5 (x0 x1 x2 x3:Int) (h0:isW x0) (h1:isW x1) (h2:isW x2) (h3:isW x3):x0/2^(8*(5%8))%256=Qa1 (val x0 x1 x2 x3) 5:=by
  have e:(2:Int)^(8*(5%8))=1099511627776:=by decide
  have f:(256:Int)^5=1099511627776:=by decide
  unfold Qa1
  rw [e,f]
  unfold isW val at *
  omega
theorem wb6 (x0 x1 x2 x3:Int) (h0:isW x0) (h1:isW x1) (h2:isW x2) (h3:isW x3):x0/2^(8*(6%8))%256=Qa1 (val x0 x1 x2 x3) 6:=by
  have e:(2:Int)^(8*(6%8))=281474976710656:=by decide
  have f:(256:Int)^6=281474976710656:=by decide
  unfold Qa1
  rw [e,f]
  unfold isW val at *
  omega
theorem wb7 (x0 x1 x2 x3:Int) (h0:isW x0) (h1:isW x1) (h2:isW x2) (h3:isW x3):x0/2^(8*(7%8))%256=Qa1 (val x0 x1 x2 x3) 7:=by
  have e:(2:Int)^(8*(7%8))=72057594037927936:=by decide
  have f:(256:Int)^7=72057594037927936:=by decide
  unfold Qa1
  rw [e,f]
  unfold isW val at *
  omega
theorem wb8 (x0 x1 x2 x3:Int) (h0:isW x0) (h1:isW x1) (h2:isW x2) (h3:isW x3):x1/2^(8*(8%8))%256=Qa1 (val x0 x1 x2 x3) 8:=by
  have e:(2:Int)^(8*(8%8))=1:=by decide
  have f:(256:Int)^8=18446744073709551616:=by decide
  unfold Qa1
  rw [e,f]
  unfold isW val at *
  omega
theorem wb9 (x0 x1 x2 x3:Int) (h0:isW x0) (h1:isW x1) (h2:isW x2) (h3:isW x3):x1/2^(8*(9%8))%256=Qa1 (val x0 x1 x2 x3) 9:=by
  have e:(2:Int)^(8*(9%8))=256:=by decide
  have f:(256:Int)^9=4722366482869645213696:=by decide
  unfold Qa1
  rw [e,f]
  unfold isW val at *
  omega
theorem wb10 (x0 x1 x2 x3:Int) (h0:isW x0) (h1:isW x1) (h2:isW x2) (h3:isW x3):x1/2^(8*(10%8))%256=Qa1 (val x0 x1 x2 x3) 10:=by
  have e:(2:Int)^(8*(10%8))=65536:=by decide
  have f:(256:Int)^10=1208925819614629174706176:=by decide
  unfold Qa1
  rw [e,f]
  unfold isW val at *
  omega
theorem wb11 (x0 x1 x2 x3:Int) (h0:isW x0) (h1:isW x1) (h2:isW x2) (h3:isW x3):x1/2^(8*(11%8))%256=Qa1 (val x0 x1 x2 x3) 11:=by
  have e:(2:Int)^(8*(11%8))=16777216:=by decide
  have f:(256:Int)^11=309485009821345068724781056:=by decide
  unfold Qa1
  rw [e,f]
  unfold isW val at *
  omega
theorem wb12 (x0 x1 x2 x3:Int) (h0:isW x0) (h1:isW x1) (h2:isW x2) (h3:isW x3):x1/2^(8*(12%8))%256=Qa1 (val x0 x1 x2 x3) 12:=by
  have e:(2:Int)^(8*(12%8))=4294967296:=by decide
  have f:(256:Int)^12=79228162514264337593543950336:=by decide
  unfold Qa1
  rw [e,f]
  unfold isW val at *
  omega
theorem wb13 (x0 x1 x2 x3:Int) (h0:isW x0) (h1:isW x1) (h2:isW x2) (h3:isW x3):x1/2^(8*(13%8))%256=Qa1 (val x0 x1 x2 x3) 13:=by
  have e:(2:Int)^(8*(13%8))=1099511627776:=by decide
  have f:(256:Int)^13=20282409603651670423947251286016:=by decide
  unfold Qa1
  rw [e,f]
  unfold isW val at *
  omega
theorem wb14 (x0 x1 x2 x3:Int) (h0:isW x0) (h1:isW x1) (h2:isW x2) (h3:isW x3):x1/2^(8*(14%8))%256=Qa1 (val x0 x1 x2 x3) 14:=by
  have e:(2:Int)^(8*(14%8))=281474976710656:=by decide
  have f:(256:Int)^14=5192296858534827628530496329220096:=by decide
  unfold Qa1
  rw [e,f]
  unfold isW val at *
  omega
theorem wb15 (x0 x1 x2 x3:Int) (h0:isW x0) (h1:isW x1) (h2:isW x2) (h3:isW x3):x1/2^(8*(15%8))%256=Qa1 (val x0 x1 x2 x3) 15:=by
  have e:(2:Int)^(8*(15%8))=72057594037927936:=by decide
  have f:(256:Int)^15=1329227995784915872903807060280344576:=by decide
  unfold Qa1
  rw [e,f]
  unfold isW val at *
  omega
theorem wb16 (x0 x1 x2 x3:Int) (h0:isW x0) (h1:isW x1) (h2:isW x2) (h3:isW x3):x2/2^(8*(16%8))%256=Qa1 (val x0 x1 x2 x3) 16:=by
  have e:(2:Int)^(8*(16%8))=1:=by decide
  have f:(256:Int)^16=340282366920938463463374607431768211456:=by decide
  unfold Qa1
  rw [e,f]
  unfold isW val at *
  omega
theorem wb17 (x0 x1 x2 x3:Int) (h0:isW x0) (h1:isW x1) (h2:isW x2) (h3:isW x3):x2/2^(8*(17%8))%256=Qa1 (val x0 x1 x2 x3) 17:=by
  have e:(2:Int)^(8*(17%8))=256:=by decide
  have f:(256:Int)^17=87112285931760246646623899502532662132736:=by decide
  unfold Qa1
  rw [e,f]
  unfold isW val at *
  omega
theorem wb18 (x0 x1 x2 x3:Int) (h0:isW x0) (h1:isW x1) (h2:isW x2) (h3:isW x3):x2/2^(8*(18%8))%256=Qa1 (val x0 x1 x2 x3) 18:=by
  have e:(2:Int)^(8*(18%8))=65536:=by decide
  have f:(256:Int)^18=22300745198530623141535718272648361505980416:=by decide
  unfold Qa1
  rw [e,f]
  unfold isW val at *
  omega
theorem wb19 (x0 x1 x2 x3:Int) (h0:isW x0) (h1:isW x1) (h2:isW x2) (h3:isW x3):x2/2^(8*(19%8))%256=Qa1 (val x0 x1 x2 x3) 19:=by
  have e:(2:Int)^(8*(19%8))=16777216:=by decide
  have f:(256:Int)^19=5708990770823839524233143877797980545530986496:=by decide
  unfold Qa1
  rw [e,f]
  unfold isW val at *
  omega
theorem wb20 (x0 x1 x2 x3:Int) (h0:isW x0) (h1:isW x1) (h2:isW x2) (h3:isW x3):x2/2^(8*(20%8))%256=Qa1 (val x0 x1 x2 x3) 20:=by
  have e:(2:Int)^(8*(20%8))=4294967296:=by decide
  have f:(256:Int)^20=1461501637330902918203684832716283019655932542976:=by decide
  unfold Qa1
  rw [e,f]
  unfold isW val at *
  omega
theorem wb21 (x0 x1 x2 x3:Int) (h0:isW x0) (h1:isW x1) (h2:isW x2) (h3:isW x3):x2/2^(8*(21%8))%256=Qa1 (val x0 x1 x2 x3) 21:=by
  have e:(2:Int)^(8*(21%8))=1099511627776:=by decide
  have f:(256:Int)^21=374144419156711147060143317175368453031918731001856:=by decide
  unfold Qa1
  rw [e,f]
  unfold isW val at *
  omega
theorem wb22 (x0 x1 x2 x3:Int) (h0:isW x0) (h1:isW x1) (h2:isW x2) (h3:isW x3):x2/2^(8*(22%8))%256=Qa1 (val x0 x1 x2 x3) 22:=by
  have e:(2:Int)^(8*(22%8))=281474976710656:=by decide
  have f:(256:Int)^22=95780971304118053647396689196894323976171195136475136:=by decide
  unfold Qa1
  rw [e,f]
  unfold isW val at *
  omega
theorem wb23 (x0 x1 x2 x3:Int) (h0:isW x0) (h1:isW x1) (h2:isW x2) (h3:isW x3):x2/2^(8*(23%8))%256=Qa1 (val x0 x1 x2 x3) 23:=by
  have e:(2:Int)^(8*(23%8))=72057594037927936:=by decide
  have f:(256:Int)^23=24519928653854221733733552434404946937899825954937634816:=by decide
  unfold Qa1
  rw [e,f]
  unfold isW val at *
  omega
theorem wb24 (x0 x1 x2 x3:Int) (h0:isW x0) (h1:isW x1) (h2:isW x2) (h3:isW x3):x3/2^(8*(24%8))%256=Qa1 (val x0 x1 x2 x3) 24:=by
  have e:(2:Int)^(8*(24%8))=1:=by decide
  have f:(256:Int)^24=6277101735386680763835789423207666416102355444464034512896:=by decide
  unfold Qa1
  rw [e,f]
  unfold isW val at *
  omega
theorem wb25 (x0 x1 x2 x3:Int) (h0:isW x0) (h1:isW x1) (h2:isW x2) (h3:isW x3):x3/2^(8*(25%8))%256=Qa1 (val x0 x1 x2 x3) 25:=by
  have e:(2:Int)^(8*(25%8))=256:=by decide
  have f:(256:Int)^25=1606938044258990275541962092341162602522202993782792835301376:=by decide
  unfold Qa1
  rw [e,f]
  unfold isW val at *
  omega
theorem wb26 (x0 x1 x2 x3:Int) (h0:isW x0) (h1:isW x1) (h2:isW x2) (h3:isW x3):x3/2^(8*(26%8))%256=Qa1 (val x0 x1 x2 x3) 26:=by
  have e:(2:Int)^(8*(26%8))=65536:=by decide
  have f:(256:Int)^26=411376139330301510538742295639337626245683966408394965837152256:=by decide
  unfold Qa1
  rw [e,f]
  unfold isW val at *
  omega
theorem wb27 (x0 x1 x2 x3:Int) (h0:isW x0) (h1:isW x1) (h2:isW x2) (h3:isW x3):x3/2^(8*(27%8))%256=Qa1 (val x0 x1 x2 x3) 27:=by
  have e:(2:Int)^(8*(27%8))=16777216:=by decide
  have f:(256:Int)^27=105312291668557186697918027683670432318895095400549111254310977536:=by decide
  unfold Qa1
  rw [e,f]
  unfold isW val at *
  omega
theorem wb28 (x0 x1 x2 x3:Int) (h0:isW x0) (h1:isW x1) (h2:isW x2) (h3:isW x3):x3/2^(8*(28%8))%256=Qa1 (val x0 x1 x2 x3) 28:=by
  have e:(2:Int)^(8*(28%8))=4294967296:=by decide
  have f:(256:Int)^28=26959946667150639794667015087019630673637144422540572481103610249216:=by decide
  unfold Qa1
  rw [e,f]
  unfold isW val at *
  omega
theorem wb29 (x0 x1 x2 x3:Int) (h0:isW x0) (h1:isW x1) (h2:isW x2) (h3:isW x3):x3/2^(8*(29%8))%256=Qa1 (val x0 x1 x2 x3) 29:=by
  have e:(2:Int)^(8*(29%8))=1099511627776:=by decide
  have f:(256:Int)^29=6901746346790563787434755862277025452451108972170386555162524223799296:=by decide
  unfold Qa1
  rw [e,f]
  unfold isW val at *
  omega
theorem wb30 (x0 x1 x2 x3:Int) (h0:isW x0) (h1:isW x1) (h2:isW x2) (h3:isW x3):x3/2^(8*(30%8))%256=Qa1 (val x0 x1 x2 x3) 30:=by
  have e:(2:Int)^(8*(30%8))=281474976710656:=by decide
  have f:(256:Int)^30=1766847064778384329583297500742918515827483896875618958121606201292619776:=by decide
  unfold Qa1
  rw [e,f]
  unfold isW val at *
  omega
theorem wb31 (x0 x1 x2 x3:Int) (h0:isW x0) (h1:isW x1) (h2:isW x2) (h3:isW x3):x3/2^(8*(31%8))%256=Qa1 (val x0 x1 x2 x3) 31:=by
  have e:(2:Int)^(8*(31%8))=72057594037927936:=by decide
  have f:(256:Int)^31=452312848583266388373324160190187140051835877600158453279131187530910662656:=by decide
  unfold Qa1
  rw [e,f]
  unfold isW val at *
  omega
theorem QlA (x0 x1 x2 x3 n:Int) (h0:isW x0) (h1:isW x1) (h2:isW x2) (h3:isW x3) (e:val x0 x1 x2 x3=n) (k:Nat) (hk:k<32) :
    ∃ y,isW y∧(#[Value.int .u64 x0,.int .u64 x1,.int .u64 x2,.int .u64 x3]:Array Value)[k/8]? = some (.int .u64 y)∧y/2^(8*(k%8))%256=Qa1 n k:=by
  subst e
  rcases (by omega:k=0∨k=1∨k=2∨k=3∨k=4∨k=5∨k=6∨k=7∨k=8∨k=9∨k=10∨k=11∨k=12∨k=13∨k=14∨k=15∨k=16∨k=17∨k=18∨k=19∨k=20∨k=21∨k=22∨k=23∨k=24∨k=25∨k=26∨k=27∨k=28∨k=29∨k=30∨k=31) with rfl | rfl | rfl | rfl | rfl | rfl | rfl | rfl | rfl | rfl | rfl | rfl | rfl | rfl | rfl | rfl | rfl | rfl | rfl | rfl | rfl | rfl | rfl | rfl | rfl | rfl | rfl | rfl | rfl | rfl | rfl | rfl
  · exact ⟨x0,h0,rfl,wb0 x0 x1 x2 x3 h0 h1 h2 h3⟩
  · exact ⟨x0,h0,rfl,wb1 x0 x1 x2 x3 h0 h1 h2 h3⟩
  · exact ⟨x0,h0,rfl,wb2 x0 x1 x2 x3 h0 h1 h2 h3⟩
  · exact ⟨x0,h0,rfl,wb3 x0 x1 x2 x3 h0 h1 h2 h3⟩
  · exact ⟨x0,h0,rfl,wb4 x0 x1 x2 x3 h0 h1 h2 h3⟩
  · exact ⟨x0,h0,rfl,wb5 x0 x1 x2 x3 h0 h1 h2 h3⟩
  · exact ⟨x0,h0,rfl,wb6 x0 x1 x2 x3 h0 h1 h2 h3⟩
  · exact ⟨x0,h0,rfl,wb7 x0 x1 x2 x3 h0 h1 h2 h3⟩
  · exact ⟨x1,h1,rfl,wb8 x0 x1 x2 x3 h0 h1 h2 h3⟩
  · exact ⟨x1,h1,rfl,wb9 x0 x1 x2 x3 h0 h1 h2 h3⟩
  · exact ⟨x1,h1,rfl,wb10 x0 x1 x2 x3 h0 h1 h2 h3⟩
  · exact ⟨x1,h1,rfl,wb11 x0 x1 x2 x3 h0 h1 h2 h3⟩
  · exact ⟨x1,h1,rfl,wb12 x0 x1 x2 x3 h0 h1 h2 h3⟩
  · exact ⟨x1,h1,rfl,wb13 x0 x1 x2 x3 h0 h1 h2 h3⟩
  · exact ⟨x1,h1,rfl,wb14 x0 x1 x2 x3 h0 h1 h2 h3⟩
  · exact ⟨x1,h1,rfl,wb15 x0 x1 x2 x3 h0 h1 h2 h3⟩
  · exact ⟨x2,h2,rfl,wb16 x0 x1 x2 x3 h0 h1 h2 h3⟩
  · exact ⟨x2,h2,rfl,wb17 x0 x1 x2 x3 h0 h1 h2 h3⟩
  · exact ⟨x2,h2,rfl,wb18 x0 x1 x2 x3 h0 h1 h2 h3⟩
  · exact ⟨x2,h2,rfl,wb19 x0 x1 x2 x3 h0 h1 h2 h3⟩
  · exact ⟨x2,h2,rfl,wb20 x0 x1 x2 x3 h0 h1 h2 h3⟩
  · exact ⟨x2,h2,rfl,wb21 x0 x1 x2 x3 h0 h1 h2 h3⟩
  · exact ⟨x2,h2,rfl,wb22 x0 x1 x2 x3 h0 h1 h2 h3⟩
  · exact ⟨x2,h2,rfl,wb23 x0 x1 x2 x3 h0 h1 h2 h3⟩
  · exact ⟨x3,h3,rfl,wb24 x0 x1 x2 x3 h0 h1 h2 h3⟩
  · exact ⟨x3,h3,rfl,wb25 x0 x1 x2 x3 h0 h1 h2 h3⟩
  · exact ⟨x3,h3,rfl,wb26 x0 x1 x2 x3 h0 h1 h2 h3⟩
  · exact ⟨x3,h3,rfl,wb27 x0 x1 x2 x3 h0 h1 h2 h3⟩
  · exact ⟨x3,h3,rfl,wb28 x0 x1 x2 x3 h0 h1 h2 h3⟩
  · exact ⟨x3,h3,rfl,wb29 x0 x1 x2 x3 h0 h1 h2 h3⟩
  · exact ⟨x3,h3,rfl,wb30 x0 x1 x2 x3 h0 h1 h2 h3⟩
  · exact ⟨x3,h3,rfl,wb31 x0 x1 x2 x3 h0 h1 h2 h3⟩
theorem Qkz (n : Int) (k:Nat) (hk:k<32):(ints .u8 (part n k))[k]? = some (.int .u8 0):=by
  rw [Qaw _ _ _ (by simp [part,hk])]
  simp [nth,part,hk]
theorem Qky (n : Int) (k:Nat) (hk:k<32):(ints .u8 (part n k)).setIfInBounds k (.int .u8 (Qa1 n k))=ints .u8 (part n (k+1)):=by
  rw [QbA]
  congr 1
  apply List.ext_getElem
  · simp [part]
  · intro i h1 h2
    simp only [part,List.getElem_set,List.getElem_map,List.getElem_range]
    by_cases hi:k=i
    · subst hi; simp
    · simp only [hi,if_false]
      by_cases hl:i<k
      · rw [if_pos hl,if_pos (by omega)]
      · rw [if_neg hl,if_neg (by omega)]
theorem Qcx (w : World) (a b c:Obj):(((w.alloc a).alloc b).alloc c).heap[w.heap.size+1]? = some b:=by
  rw [Below.heap_alloc _ _ _ (by simp)]
  have:=heap_alloc_new (w.alloc a) b
  simpa using this
theorem infoKey : (Tryd.prog.info? 23).map (·.size)=some 32:=kj
theorem ints_one (k : IntKind) (xs:List Int):(ints k xs).all (·.oneCell')=true:=by simp [ints,Value.oneCell']
theorem bytes (n : Int) (hn:isN n) (w:World):Calls Tryd.prog 50 #[num n] w (Ret w (.agg (ints .u8 (Qao n)))):=by
  obtain ⟨x0,x1,x2,x3,wx0,wx1,wx2,wx3,ex,eX⟩:=QbV n hn
  rw [eX]
  clear eX
  unfold words
  go_enter Tryd.func50,Tryd.ntmps50
  go_wp2_with fail
  go_loopw [5] (fun i wr=>∃ k:Nat,k≤32∧i=.int .i64 k∧∃ b,b.size=32∧wr=((w.alloc (.cells #[.int .u64 x0,.int .u64 x1,.int .u64 x2,.int .u64 x3] 49)).alloc (.cells b 23)).alloc (.cells (ints .u8 (part n k)) 23)) (fun i _=>32-(intOf i).toNat)
  case atStart=>exact ⟨0,by omega,rfl,_,rfl,rfl⟩
  case round =>
    obtain ⟨k,hk,rfl,b,hbs,rfl⟩:=hrel
    by_cases hlt:k<32
    · obtain ⟨y,wy,hy,hby⟩:=QlA x0 x1 x2 x3 n wx0 wx1 wx2 wx3 ex k hlt
      have hg:=Qkz n k hlt
      have hs:=Qky n k hlt
      go_wp2
      exact ⟨⟨k+1,by omega,by go_num,b,hbs,rfl⟩,by simp [intOf]; omega⟩
    · obtain rfl:k=32:=by omega
      have hi:(Tryd.prog.info? 23).map (·.size)=some (ints .u8 (Qao n)).size:=by rw [infoKey,Qaf]; rfl
      have hbl:b.size=(ints .u8 (Qao n)).size:=by rw [hbs,Qaf]; rfl
      go_wp2_with first
        | (with_reducible show wpList _ _ _ ((⟨_,.load 23 _,_,_,_,_⟩:Oper)::_) _ _
           refine wpList_load_row rfl 23 _ rfl (w.heap.size+2) rfl 23 (ints .u8 (Qao n)) (0,0) _ (Qb5 _ _ _ _) Tryd.underlying23 rfl hi ?_)
        | (with_reducible show wpList _ _ _ ((⟨_,.store 23 _ _,_,_,_,_⟩:Oper)::_) _ _
           refine wpList_store_row rfl 23 _ _ rfl (w.heap.size+1) (ints .u8 (Qao n)) rfl rfl 23 _ (Qcx _ _ _ _) hi hbl (ints_one _ _) ?_)
      exact bodyPost_ret (v:=.agg (ints .u8 (Qao n))) (results_cell_row (p:=2) rfl _ _ (w.heap.size+1) 23 (ints .u8 (Qao n)) (0,0) _ rfl (setRow_heap _ _ _ _ _ _ (Qcx _ _ _ _)) Tryd.underlying23 rfl hi) rfl ⟨rfl,below_setRow (ext3 _ _ _ _) (by omega) _⟩
end Go.Proofs.YtdoadngmgmdlbaaDoor.Field
end
section
namespace Go.Proofs.YtdoadngmgmdlbaaDoor.Field
open Go Go.RowKit
open Rely
def Drew (w w':World):Prop:=∃ n,w'=w.drewN n
theorem Drew.refl (w : World):Drew w w:=⟨0,rfl⟩
theorem Drew.trans {a b c:World}:Drew a b→Drew b c→Drew a c:=fun ⟨m,h⟩ ⟨n,k⟩=>⟨m+n,by subst h; subst k; simp⟩
theorem run_index_ints {P : Program} (W:World) {t e:TypeId} {n:Nat} {k ki:IntKind} (ht:P.underlying t=some (.array n e)) (he:P.underlying e=some (.int k)) (hq:(P.info? e).map (·.size)=some 1)
    (xs:List Int) (hl:xs.length=n) (i:Nat) (hi:i<n):(Instr.index t (.agg (ints k xs)) (.int ki (i:Int))).run P W=.ok (.int k (nth xs i)) W:=by
  have hp:P.plainKey e=true:=by simp [Program.plainKey,he]
  have a1:=run_part_plain W hp (Qaw k xs i (by omega))
  unfold Instr.index
  cases hI:P.info? e with
  | none=>simp [hI] at hq
  | some inf =>
    have hs:inf.size=1:=by simpa [hI] using hq
    have h1:((0:Int)≤(i:Int)∧(i:Int)<(n:Int)):=by omega
    simp [asIntOf,run_underlying ht,Sem.run_bind,sizeOf,typeInfo,hI,hs,hi,a1]
def leAt (xs : List Int) (o:Nat):Nat→Int
  | 0=>0
  | m+1=>leAt xs o m+nth xs (o+m)*256^m
def pw (xs : List Int) (k:Nat):List Int:=[leAt xs 0 (min 8 k),leAt xs 8 (min 8 (k-8)),leAt xs 16 (min 8 (k-16)),leAt xs 24 (min 8 (k-24))]
theorem Qdy (xs : List Int) (hb:Qak xs) (o:Nat):∀ m,0≤leAt xs o m∧leAt xs o m<256^m
  | 0=>by simp [leAt]
  | m+1=>by
    have ih:=Qdy xs hb o m
    have h:=hb.nth (o+m)
    have hp:(0:Int)≤256^m:=by have:=ih.1; have:=ih.2; omega
    have h1:0≤nth xs (o+m)*256^m:=Int.mul_nonneg h.1 hp
    have h2:nth xs (o+m)*256^m≤255*256^m:=Int.mul_le_mul_of_nonneg_right h.2 hp
    have e:(256:Int)^(m+1)=256*256^m:=by rw [Int.pow_succ,Int.mul_comm]
    rw [leAt,e]
    have:=ih.1
    have:=ih.2
    omega
theorem Qk9 (s x:Int) (m:Nat) (hm:m<8) (hs:0≤s∧s<256^m) (hx:0≤x∧x≤255) :
    bits .or .u64 s (x*2^(8*m))=s+x*256^m∧0≤x*2^(8*m)∧x*2^(8*m)<18446744073709551616:=by
  obtain ⟨S,rfl⟩:=Int.eq_ofNat_of_zero_le hs.1
  obtain ⟨X,rfl⟩:=Int.eq_ofNat_of_zero_le hx.1
  have key:∀ i:Nat,S<2^i→X*2^i<18446744073709551616→S<18446744073709551616→bits .or .u64 (S:Int) ((X*2^i:Nat):Int)=((S+X*2^i:Nat):Int):=fun i h1 h2 h3=>by
    rw [u64_or_nat S _ h3 h2,Nat.or_comm,Nat.mul_comm,←Nat.two_pow_add_eq_or_of_lt h1,Nat.add_comm]
  have hX:X≤255:=by omega
  rcases (by omega:m=0∨m=1∨m=2∨m=3∨m=4∨m=5∨m=6∨m=7) with rfl | rfl | rfl | rfl | rfl | rfl | rfl | rfl
  · have h:=key 0 (by have:=hs.2; omega) (by omega) (by have:=hs.2; omega)
    have e:(2:Int)^(8*0)=1:=by decide
    have f:(256:Int)^0=1:=by decide
    rw [e,f]
    refine ⟨?_,by omega,by omega⟩
    have g:((X*2^0:Nat):Int)=(X:Int)*1:=by omega
    rw [g] at h
    rw [h]
    omega
  · have h:=key 8 (by have:=hs.2; omega) (by omega) (by have:=hs.2; omega)
    have e:(2:Int)^(8*1)=256:=by decide
    have f:(256:Int)^1=256:=by decide
    rw [e,f]
    refine ⟨?_,by omega,by omega⟩
    have g:((X*2^8:Nat):Int)=(X:Int)*256:=by omega
    rw [g] at h
    rw [h]
    omega
  · have h:=key 16 (by have:=hs.2; omega) (by omega) (by have:=hs.2; omega)
    have e:(2:Int)^(8*2)=65536:=by decide
    have f:(256:Int)^2=65536:=by decide
    rw [e,f]
    refine ⟨?_,by omega,by omega⟩
    have g:((X*2^16:Nat):Int)=(X:Int)*65536:=by omega
    rw [g] at h
    rw [h]
    omega
  · have h:=key 24 (by have:=hs.2; omega) (by omega) (by have:=hs.2; omega)
    have e:(2:Int)^(8*3)=16777216:=by decide
    have f:(256:Int)^3=16777216:=by decide
    rw [e,f]
    refine ⟨?_,by omega,by omega⟩
    have g:((X*2^24:Nat):Int)=(X:Int)*16777216:=by omega
    rw [g] at h
    rw [h]
    omega
  · have h:=key 32 (by have:=hs.2; omega) (by omega) (by have:=hs.2; omega)
    have e:(2:Int)^(8*4)=4294967296:=by decide
    have f:(256:Int)^4=4294967296:=by decide
    rw [e,f]
    refine ⟨?_,by omega,by omega⟩
    have g:((X*2^32:Nat):Int)=(X:Int)*4294967296:=by omega
    rw [g] at h
    rw [h]
    omega
  · have h:=key 40 (by have:=hs.2; omega) (by omega) (by have:=hs.2; omega)
    have e:(2:Int)^(8*5)=1099511627776:=by decide
    have f:(256:Int)^5=1099511627776:=by decide
    rw [e,f]
    refine ⟨?_,by omega,by omega⟩
    have g:((X*2^40:Nat):Int)=(X:Int)*1099511627776:=by omega
    rw [g] at h
    rw [h]
    omega
  · have h:=key 48 (by have:=hs.2; omega) (by omega) (by have:=hs.2; omega)
    have e:(2:Int)^(8*6)=281474976710656:=by decide
    have f:(256:Int)^6=281474976710656:=by decide
    rw [e,f]
    refine ⟨?_,by omega,by omega⟩
    have g:((X*2^48:Nat):Int)=(X:Int)*281474976710656:=by omega
    rw [g] at h
    rw [h]
    omega
  · have h:=key 56 (by have:=hs.2; omega) (by omega) (by have:=hs.2; omega)
    have e:(2:Int)^(8*7)=72057594037927936:=by decide
    have f:(256:Int)^7=72057594037927936:=by decide
    rw [e,f]
    refine ⟨?_,by omega,by omega⟩
    have g:((X*2^56:Nat):Int)=(X:Int)*72057594037927936:=by omega
    rw [g] at h
    rw [h]
    omega
theorem Qkv (xs : List Int) (hb:Qak xs) (k:Nat) (hk:k<32):∃ s s',(ints .u64 (pw xs k))[k/8]? = some (.int .u64 s) ∧
    IntKind.u64.wrap (nth xs k*2^(8*(k%8)))=nth xs k*2^(8*(k%8)) ∧
    bits .or .u64 s (nth xs k*2^(8*(k%8)))=s'∧(ints .u64 (pw xs k)).setIfInBounds (k/8) (.int .u64 s')=ints .u64 (pw xs (k+1)):=by
  have key:=fun o m (hm:m<8)=>Qk9 (leAt xs o m) (nth xs (o+m)) m hm (Qdy xs hb o m) (hb.nth (o+m))
  rcases (by omega:k=0∨k=1∨k=2∨k=3∨k=4∨k=5∨k=6∨k=7∨k=8∨k=9∨k=10∨k=11∨k=12∨k=13∨k=14∨k=15∨k=16∨k=17∨k=18∨k=19∨k=20∨k=21∨k=22∨k=23∨k=24∨k=25∨k=26∨k=27∨k=28∨k=29∨k=30∨k=31) with rfl | rfl | rfl | rfl | rfl | rfl | rfl | rfl | rfl | rfl | rfl | rfl | rfl | rfl | rfl | rfl | rfl | rfl | rfl | rfl | rfl | rfl | rfl | rfl | rfl | rfl | rfl | rfl | rfl | rfl | rfl | rfl
  · exact ⟨leAt xs 0 0,leAt xs 0 1,rfl,wrap64 _ (key 0 0 (by decide)).2,(key 0 0 (by decide)).1,rfl⟩
  · exact ⟨leAt xs 0 1,leAt xs 0 2,rfl,wrap64 _ (key 0 1 (by decide)).2,(key 0 1 (by decide)).1,rfl⟩
  · exact ⟨leAt xs 0 2,leAt xs 0 3,rfl,wrap64 _ (key 0 2 (by decide)).2,(key 0 2 (by decide)).1,rfl⟩
  · exact ⟨leAt xs 0 3,leAt xs 0 4,rfl,wrap64 _ (key 0 3 (by decide)).2,(key 0 3 (by decide)).1,rfl⟩
  · exact ⟨leAt xs 0 4,leAt xs 0 5,rfl,wrap64 _ (key 0 4 (by decide)).2,(key 0 4 (by decide)).1,rfl⟩
  · exact ⟨leAt xs 0 5,leAt xs 0 6,rfl,wrap64 _ (key 0 5 (by decide)).2,(key 0 5 (by decide)).1,rfl⟩
  · exact ⟨leAt xs 0 6,leAt xs 0 7,rfl,wrap64 _ (key 0 6 (by decide)).2,(key 0 6 (by decide)).1,rfl⟩
  · exact ⟨leAt xs 0 7,leAt xs 0 8,rfl,wrap64 _ (key 0 7 (by decide)).2,(key 0 7 (by decide)).1,rfl⟩
  · exact ⟨leAt xs 8 0,leAt xs 8 1,rfl,wrap64 _ (key 8 0 (by decide)).2,(key 8 0 (by decide)).1,rfl⟩
  · exact ⟨leAt xs 8 1,leAt xs 8 2,rfl,wrap64 _ (key 8 1 (by decide)).2,(key 8 1 (by decide)).1,rfl⟩
  · exact ⟨leAt xs 8 2,leAt xs 8 3,rfl,wrap64 _ (key 8 2 (by decide)).2,(key 8 2 (by decide)).1,rfl⟩
  · exact ⟨leAt xs 8 3,leAt xs 8 4,rfl,wrap64 _ (key 8 3 (by decide)).2,(key 8 3 (by decide)).1,rfl⟩
  · exact ⟨leAt xs 8 4,leAt xs 8 5,rfl,wrap64 _ (key 8 4 (by decide)).2,(key 8 4 (by decide)).1,rfl⟩
  · exact ⟨leAt xs 8 5,leAt xs 8 6,rfl,wrap64 _ (key 8 5 (by decide)).2,(key 8 5 (by decide)).1,rfl⟩
  · exact ⟨leAt xs 8 6,leAt xs 8 7,rfl,wrap64 _ (key 8 6 (by decide)).2,(key 8 6 (by decide)).1,rfl⟩
  · exact ⟨leAt xs 8 7,leAt xs 8 8,rfl,wrap64 _ (key 8 7 (by decide)).2,(key 8 7 (by decide)).1,rfl⟩
  · exact ⟨leAt xs 16 0,leAt xs 16 1,rfl,wrap64 _ (key 16 0 (by decide)).2,(key 16 0 (by decide)).1,rfl⟩
  · exact ⟨leAt xs 16 1,leAt xs 16 2,rfl,wrap64 _ (key 16 1 (by decide)).2,(key 16 1 (by decide)).1,rfl⟩
  · exact ⟨leAt xs 16 2,leAt xs 16 3,rfl,wrap64 _ (key 16 2 (by decide)).2,(key 16 2 (by decide)).1,rfl⟩
  · exact ⟨leAt xs 16 3,leAt xs 16 4,rfl,wrap64 _ (key 16 3 (by decide)).2,(key 16 3 (by decide)).1,rfl⟩
  · exact ⟨leAt xs 16 4,leAt xs 16 5,rfl,wrap64 _ (key 16 4 (by decide)).2,(key 16 4 (by decide)).1,rfl⟩
  · exact ⟨leAt xs 16 5,leAt xs 16 6,rfl,wrap64 _ (key 16 5 (by decide)).2,(key 16 5 (by decide)).1,rfl⟩
  · exact ⟨leAt xs 16 6,leAt xs 16 7,rfl,wrap64 _ (key 16 6 (by decide)).2,(key 16 6 (by decide)).1,rfl⟩
  · exact ⟨leAt xs 16 7,leAt xs 16 8,rfl,wrap64 _ (key 16 7 (by decide)).2,(key 16 7 (by decide)).1,rfl⟩
  · exact ⟨leAt xs 24 0,leAt xs 24 1,rfl,wrap64 _ (key 24 0 (by decide)).2,(key 24 0 (by decide)).1,rfl⟩
  · exact ⟨leAt xs 24 1,leAt xs 24 2,rfl,wrap64 _ (key 24 1 (by decide)).2,(key 24 1 (by decide)).1,rfl⟩
  · exact ⟨leAt xs 24 2,leAt xs 24 3,rfl,wrap64 _ (key 24 2 (by decide)).2,(key 24 2 (by decide)).1,rfl⟩
  · exact ⟨leAt xs 24 3,leAt xs 24 4,rfl,wrap64 _ (key 24 3 (by decide)).2,(key 24 3 (by decide)).1,rfl⟩
  · exact ⟨leAt xs 24 4,leAt xs 24 5,rfl,wrap64 _ (key 24 4 (by decide)).2,(key 24 4 (by decide)).1,rfl⟩
  · exact ⟨leAt xs 24 5,leAt xs 24 6,rfl,wrap64 _ (key 24 5 (by decide)).2,(key 24 5 (by decide)).1,rfl⟩
  · exact ⟨leAt xs 24 6,leAt xs 24 7,rfl,wrap64 _ (key 24 6 (by decide)).2,(key 24 6 (by decide)).1,rfl⟩
  · exact ⟨leAt xs 24 7,leAt xs 24 8,rfl,wrap64 _ (key 24 7 (by decide)).2,(key 24 7 (by decide)).1,rfl⟩
theorem Qey (w : World) (a b c:Obj):(((w.alloc a).alloc b).alloc c).heap[w.heap.size]? = some a:=by
  rw [Below.heap_alloc _ _ _ (by simp; omega),Below.heap_alloc _ _ _ (by simp)]
  exact heap_alloc_new w a
theorem set3 (w : World) (a b:Obj) (cs:Array Value) (t:TypeId) (n i:Nat) (v:Value) :
    ((((w.alloc a).alloc b).alloc (.cells cs t)).drewN n).setCell ⟨w.heap.size+1+1,i,none⟩ v=(((w.alloc a).alloc b).alloc (.cells (cs.setIfInBounds i v) t)).drewN n:=by
  have h:∀ W:World,(W.drewN n).setCell ⟨w.heap.size+1+1,i,none⟩ v=(W.setCell ⟨w.heap.size+1+1,i,none⟩ v).drewN n:=fun _=>rfl
  rw [h]
  congr 1
  go_simp
theorem le32 (xs : List Int):val (leAt xs 0 8) (leAt xs 8 8) (leAt xs 16 8) (leAt xs 24 8)=leAt xs 0 32:=by
  simp only [leAt,val,Int.reducePow,Nat.reduceAdd]
  omega
theorem QeA (xs : List Int) (hb:Qak xs) (o:Nat):isW (leAt xs o 8):=by
  have h:=Qdy xs hb o 8
  have e:(256:Int)^8=18446744073709551616:=by decide
  rw [e] at h
  exact h
theorem Qn6 (a b c d n:Int) (ha:isW a) (hb:isW b) (hc:isW c) (hd:isW d) (e:val a b c d=n) :
    val a b c (d%9223372036854775808)=n%57896044618658097711785492504343953926634992332820282019728792003956564819968∧val a b c (d%9223372036854775808)<2*p:=by
  subst e
  unfold isW at *
  unfold val p
  omega
set_option maxRecDepth 100000 in
theorem QkU (xs : List Int) (hl:xs.length=32) (hb:Qak xs) (w:World):Calls Tryd.prog 44 #[.agg (ints .u8 xs)] w (Ret w (num (leAt xs 0 32%57896044618658097711785492504343953926634992332820282019728792003956564819968%p))):=by
  go_enter Tryd.func44,Tryd.ntmps44
  have hi:(Tryd.prog.info? 23).map (·.size)=some (ints .u8 xs).size:=by rw [infoKey,Qaf,hl]
  go_wp2_with first
    | (with_reducible show wpList _ _ _ ((⟨_,.load 23 _,_,_,_,_⟩:Oper)::_) _ _
       refine wpList_load_row rfl 23 _ rfl w.heap.size rfl 23 (ints .u8 xs) (0,0) _ (Qey _ _ _ _) Tryd.underlying23 rfl hi ?_)
  go_loopw [7] (fun i wr=>∃ k:Nat,k≤32∧i=.int .i64 k∧∃ b nq,b.size=4∧wr=(((w.alloc (.cells (ints .u8 xs) 23)).alloc (.cells b 49)).alloc (.cells (ints .u64 (pw xs k)) 47)).drewN nq) (fun i _=>32-(intOf i).toNat)
  case atStart=>exact ⟨0,by omega,rfl,_,0,rfl,rfl⟩
  case round =>
    obtain ⟨k,hk,rfl,b,nq,hbs,rfl⟩:=hrel
    by_cases hlt:k<32
    · obtain ⟨s,s',hg,hw,ho,hs⟩:=Qkv xs hb k hlt
      have hx:(ints .u8 xs)[k]? = some (.int .u8 (nth xs k)):=Qaw _ _ _ (by omega)
      have q0:(0:Int)≤(k:Int)/8:=by omega
      have q1:(k:Int)/8<4:=by omega
      have q2:IntKind.i64.wrap ((k:Int)/8)=(k:Int)/8:=IntWalk.i64_in _ (by omega)
      have qm:(k:Int).tmod 8=(k:Int)%8:=Int.tmod_eq_emod_of_nonneg (by omega)
      have q3:IntKind.i64.wrap ((k:Int)%8)=(k:Int)%8:=IntWalk.i64_in _ (by omega)
      have q4:IntKind.i64.wrap (8*((k:Int)%8))=8*((k:Int)%8):=IntWalk.i64_in _ (by omega)
      have q5:((k:Int)/8).toNat=k/8:=by omega
      have q6:(8*((k:Int)%8)).toNat=8*(k%8):=by omega
      have q7:(0:Int)≤8*((k:Int)%8):=by omega
      have q8:8*((k:Int)%8)<64:=by omega
      have q9:=wrap64 (nth xs k) (by have:=hb.nth k; unfold isW; omega)
      have hX:∀ W,(Instr.index 23 (.agg (ints .u8 xs)) (.int .i64 (k:Int))).run Tryd.prog W=.ok (.int .u8 (nth xs k)) W:=fun W=>run_index_ints W Tryd.underlying23 Tryd.underlying5 kj xs hl k hlt
      go_wp2
      have hc:∀ W,Drew ((((w.alloc (.cells (ints .u8 xs) 23)).alloc (.cells b 49)).alloc (.cells (ints .u64 (pw xs k)) 47)).drewN nq).drew W→W.cell? ⟨w.heap.size+1+1,k/8,none⟩=some (.int .u64 s):=fun W hR=>by
        obtain ⟨m,rfl⟩:=hR
        have h2:=Qb5 w (.cells (ints .u8 xs) 23) (.cells b 49) (.cells (ints .u64 (pw xs k)) 47)
        exact (cell_of_row _ (w.heap.size+2) (k/8) _ _ _ h2).trans hg
      have HC:=Lib.hid hc
      clear hc
      refine Qa4 Drew 12 34 [⟨none,[(4,none)]⟩,⟨none,[(11,some 0)]⟩,⟨none,[(3,none),(12,some 1)]⟩,⟨none,[(13,some 2)]⟩,⟨none,[(5,none)]⟩,⟨none,[(15,some 4)]⟩,⟨none,[(4,none)]⟩,⟨none,[(17,some 6)]⟩,⟨none,[(18,some 7)]⟩,⟨none,[(16,some 5),(19,some 8)]⟩,⟨none,[(14,some 3),(20,some 9)]⟩,⟨none,[(3,none),(12,some 1)]⟩] kj kj rfl Drew.refl Drew.trans (fun F r0 hr hF=>?_)
      have f3:r0 3=.pointer (some ⟨w.heap.size+1+1,0,none⟩):=by rw [hr]; rfl
      have f4:r0 4=.int .i64 k:=by rw [hr]; rfl
      have f5:r0 5=.int .u8 (nth xs k):=by rw [hr]; rfl
      clear hr
      simp only [List.take_succ_cons,List.take_zero]
      repeat
        (try simp only [List.cons_append,List.nil_append]
         apply Qas
         (intro ρ W hR hh
          have hcell:=HC.out W hR
          simp only [QbJ,List.getD_cons_zero,List.getD_cons_succ,f3,f4,f5] at hh
          simp only [guarded,QaN]
          go_simp
          first
            | exact ⟨Drew.refl _,rfl⟩
            | exact Drew.refl _))
      try simp only [List.cons_append,List.nil_append]
      refine hF.out fun W hR=>?_
      obtain ⟨m,rfl⟩:=hR
      simp only [List.take_succ_cons,List.take_zero,List.drop_succ_cons,List.drop_zero,fin,forall_eq,Act.put,List.setIfInBounds_toArray,List.set_cons_zero,List.set_cons_succ]
      go_wp2
      refine ⟨⟨k+1,by omega,by go_num,b,nq+1+m,hbs,?_⟩,by simp [intOf]; omega⟩
      rw [set3,hs]
    · obtain rfl:k=32:=by omega
      have l0:=QeA xs hb 0
      have l1:=QeA xs hb 8
      have l2:=QeA xs hb 16
      have l3:=QeA xs hb 24
      have hp:ints .u64 (pw xs 32)=#[.int .u64 (leAt xs 0 8),.int .u64 (leAt xs 8 8),.int .u64 (leAt xs 16 8),.int .u64 (leAt xs 24 8)]:=rfl
      have ho:=QgX _ l3
      have C:∀ w,Calls Tryd.prog 81 #[.int .u64 (leAt xs 0 8),.int .u64 (leAt xs 8 8),.int .u64 (leAt xs 16 8),.int .u64 (leAt xs 24 8%9223372036854775808)] w (Ret w (num (leAt xs 0 32%57896044618658097711785492504343953926634992332820282019728792003956564819968%p))):=fun w=>by
        have lo:=Qn6 _ _ _ _ _ l0 l1 l2 l3 (le32 xs)
        have:=reduced _ _ _ _ l0 l1 l2 (by unfold isW; omega) lo.2 w
        rw [lo.1] at this
        exact this
      generalize leAt xs 0 32%57896044618658097711785492504343953926634992332820282019728792003956564819968%p=r at *
      rw [hp]
      generalize leAt xs 0 8=z0 at *
      generalize leAt xs 8 8=z1 at *
      generalize leAt xs 16 8=z2 at *
      generalize leAt xs 24 8=z3 at *
      have HC:=Lib.hid C
      clear C hp l0 l1 l2 l3
      go_wp2_with first
        | (go_at_call 81
           (with_reducible refine (HC.out _).mono ?_)
           rintro e w' ⟨rfl,hw⟩)
        | (with_reducible show wpList _ _ _ ((⟨_,.store 49 _ _,_,_,_,_⟩:Oper)::_) _ _
           refine wpList_store_row rfl 49 _ _ rfl (w.heap.size+1) (numA r) rfl rfl 49 b ((hw.block _ (by simp)).trans (Qcx _ _ _ _)) QaC hbs (Qbh _) ?_)
      exact bodyPost_ret (QcQ (t:=2) rfl rfl (setRow_heap _ _ _ _ _ _ ((hw.block _ (by simp)).trans (Qcx _ _ _ _)))) rfl ⟨rfl,below_setRow (Ext.trans (Ext.trans (ext3 _ _ _ _) (QjH _ _)) hw) (by omega) _⟩
end Go.Proofs.YtdoadngmgmdlbaaDoor.Field
end
section
namespace Go.Proofs.YtdoadngmgmdlbaaDoor.Field
open Go Go.RowKit
open Rely
def pvf (g : Nat→Int):Nat→Int
  | 0=>0
  | k+1=>pvf g k+g k*65536^k
def limb (n : Int) (i:Nat):Int:=n/65536^i%65536
def cr (g : Nat→Int) (k:Nat):Int:=pvf g k/65536^k
theorem Qfq (k : Nat):(0:Int)<65536^k:=Int.pow_pos (by decide)
theorem Qba (n : Int) (i:Nat):0≤limb n i∧limb n i<65536:=by unfold limb; omega
theorem Qew (g : Nat→Int):cr g 0=0:=by simp [cr,pvf]
theorem Ql4 (g : Nat→Int) (k:Nat):pvf g (k+1)/65536^k=g k+cr g k:=by
  unfold cr
  rw [pvf,Int.add_mul_ediv_right _ _ (Int.ne_of_gt (Qfq k)),Int.add_comm]
theorem Qex (g : Nat→Int) (k:Nat):(g k+cr g k)/65536=cr g (k+1):=by
  rw [←Ql4]
  unfold cr
  rw [Int.pow_succ,Int.ediv_ediv_of_nonneg (Int.le_of_lt (Qfq k))]
theorem QmI (g : Nat→Int) (k:Nat):(g k+cr g k)%65536=limb (pvf g (k+1)) k:=by
  rw [←Ql4]
  rfl
theorem Qgt (g : Nat→Int) (k:Nat):∀ m,∃ r,pvf g (k+m)=pvf g k+r*65536^k
  | 0=>⟨0,by simp⟩
  | m+1=>by
    obtain ⟨r,h⟩:=Qgt g k m
    refine ⟨r+g (k+m)*65536^m,?_⟩
    rw [←Nat.add_assoc,pvf,h,Int.pow_add,Int.add_mul,Int.mul_assoc,Int.mul_comm (65536^m),Int.add_assoc]
theorem Qho (g : Nat→Int) (k n:Nat) (h:k<n):limb (pvf g (k+1)) k=limb (pvf g n) k:=by
  obtain ⟨m,rfl⟩:∃ m,n=k+1+m:=⟨n-(k+1),by omega⟩
  obtain ⟨r,hr⟩:=Qgt g (k+1) m
  unfold limb
  rw [hr,Int.pow_succ,←Int.mul_assoc,Int.mul_right_comm,Int.add_mul_ediv_right _ _ (Int.ne_of_gt (Qfq k)),Int.add_mul_emod_self_right]
theorem QcO (g : Nat→Int) (k n:Nat) (h:k<n):(g k+cr g k)%65536=limb (pvf g n) k:=by
  rw [QmI,Qho g k n h]
theorem Qgu (g : Nat→Int) (n:Nat) (hg:∀ i,i<n→0≤g i∧g i<65536):∀ k,k≤n→0≤pvf g k∧pvf g k<65536^k
  | 0,_=>by simp [pvf]
  | k+1,h=>by
    have ih:=Qgu g n hg k (by omega)
    have h0:=hg k (by omega)
    have hp:=Qfq k
    have h1:0≤g k*65536^k:=Int.mul_nonneg h0.1 (Int.le_of_lt hp)
    have h2:g k*65536^k≤65535*65536^k:=Int.mul_le_mul_of_nonneg_right (by omega) (Int.le_of_lt hp)
    rw [pvf,Int.pow_succ]
    omega
theorem QfZ (g : Nat→Int) (M:Int) (n:Nat) (hM:65536≤M) (hg:∀ i,i<n→0≤g i∧g i≤M):∀ k,k≤n→0≤cr g k∧cr g k≤M
  | 0,_=>by rw [Qew]; omega
  | k+1,h=>by
    have ih:=QfZ g M n hM hg k (by omega)
    have h0:=hg k (by omega)
    rw [←Qex]
    omega
theorem Qc8 (n : Int):∀ k,pvf (limb n) k=n%65536^k
  | 0=>by simp [pvf,Int.emod_one]
  | k+1=>by
    rw [pvf,Qc8 n k]
    unfold limb
    rw [Int.pow_succ,Int.emod_def n,Int.emod_def n,Int.emod_def (n/_),←Int.ediv_ediv_of_nonneg (Int.le_of_lt (Qfq k))]
    generalize n/65536^k=q
    generalize (65536:Int)^k=b
    generalize q/65536=r
    grind
theorem Qm0 (g : Nat→Int) (n:Nat) (hg:∀ i,i<n→0≤g i∧g i<65536) (k:Nat) (hk:k<n):limb (pvf g n) k=g k:=by
  rw [←QcO g k n hk]
  have h1:=hg k hk
  have:cr g k=0:=by
    have:=Qgu g n hg k (by omega)
    unfold cr
    exact Int.ediv_eq_zero_of_lt this.1 this.2
  rw [this]
  omega
theorem Qdj {g h:Nat→Int} {n:Nat} (e:∀ i,i<n→g i=h i):∀ k,k≤n→pvf g k=pvf h k
  | 0,_=>rfl
  | k+1,hk=>by rw [pvf,pvf,Qdj e k (by omega),e k (by omega)]
theorem Qhg (g h:Nat→Int):∀ k,pvf (fun i=>g i+h i) k=pvf g k+pvf h k
  | 0=>rfl
  | k+1=>by simp only [pvf]; rw [Qhg g h k,Int.add_mul]; omega
theorem QhF (c : Int) (g:Nat→Int):∀ k,pvf (fun i=>c*g i) k=c*pvf g k
  | 0=>by simp [pvf]
  | k+1=>by simp only [pvf]; rw [QhF c g k,Int.mul_add,Int.mul_assoc]
theorem Qgs (g : Nat→Int) (k:Nat):∀ m,pvf g (k+m)=pvf g k+pvf (fun i=>g (i+k)) m*65536^k
  | 0=>by simp [pvf]
  | m+1=>by
    rw [←Nat.add_assoc,pvf,Qgs g k m,pvf,Int.add_mul,Nat.add_comm m k,Int.pow_add]
    rw [Int.mul_assoc (g (k+m)),Int.mul_comm (65536^m),Int.add_assoc]
theorem Qi5 (n : Int) (i k:Nat):limb n (i+k)=limb (n/65536^k) i:=by
  unfold limb
  rw [Int.ediv_ediv_of_nonneg (Int.le_of_lt (Qfq k)),←Int.pow_add,Nat.add_comm k i]
def mix (N : Nat) (f g:Nat→Int) (k:Nat):List Int:=(List.range N).map fun i=>if i<k then f i else g i
theorem mix_len (N : Nat) (f g:Nat→Int) (k:Nat):(mix N f g k).length=N:=by simp [mix]
theorem QcH (N : Nat) (f g:Nat→Int) (k i:Nat) (hi:i<N):nth (mix N f g k) i=if i<k then f i else g i:=by simp [nth,mix,hi]
theorem QfN (N : Nat) (f g:Nat→Int) (k:Nat) (h:N≤k):mix N f g k=(List.range N).map f:=by
  unfold mix
  refine List.map_congr_left fun i hi=>?_
  have:=List.mem_range.1 hi
  rw [if_pos (by omega)]
theorem QfM (N : Nat) (f g:Nat→Int):mix N f g 0=(List.range N).map g:=by
  unfold mix
  exact List.map_congr_left fun i hi=>by simp
theorem mix_set (N : Nat) (f g:Nat→Int) (k:Nat) (hk:k<N):(mix N f g k).set k (f k)=mix N f g (k+1):=by
  apply List.ext_getElem
  · simp [mix]
  · intro i h1 h2
    simp only [mix,List.getElem_set,List.getElem_map,List.getElem_range]
    by_cases hi:k=i
    · subst hi; simp
    · simp only [hi,if_false]
      by_cases hl:i<k
      · rw [if_pos hl,if_pos (by omega)]
      · rw [if_neg hl,if_neg (by omega)]
theorem Qji (xs : List Int) (N:Nat) (h:xs.length=N):(List.range N).map (nth xs)=xs:=by
  apply List.ext_getElem
  · simp [h]
  · intro i h1 h2
    simp [nth,h2]
def lims (n : Int):List Int:=(List.range 16).map (limb n)
theorem Qbf (n : Int):(lims n).length=16:=by simp [lims]
theorem QfP (n : Int) (i:Nat) (h:i<16):nth (lims n) i=limb n i:=by simp [nth,lims,h]
def Qck (n : Int) (i:Nat):Int:=if i<16 then limb n i+38*limb n (i+16) else 0
def Qbx (n : Int):Int:=n%65536^16+38*(n/65536^16)
theorem QhE : ∀ k,pvf (fun _=>0) k=0
  | 0=>rfl
  | k+1=>by rw [pvf,QhE k]; simp
theorem QkW (n : Int) (h:0≤n∧n<65536^32):pvf (Qck n) 32=Qbx n:=by
  have e0:pvf (Qck n) (16+16)=pvf (Qck n) 16+pvf (fun i=>Qck n (i+16)) 16*65536^16:=Qgs _ 16 16
  have e1:pvf (fun i=>Qck n (i+16)) 16=0:=by
    rw [Qdj (h:=fun _=>0) (n:=16) (fun i hi=>by unfold Qck; rw [if_neg (by omega)]) 16 (qR _)]
    exact QhE 16
  have e2:pvf (Qck n) 16=pvf (fun i=>limb n i+38*limb n (i+16)) 16 :=
    Qdj (fun i hi=>by unfold Qck; rw [if_pos hi]) 16 (qR _)
  have e3:pvf (fun i=>limb n (i+16)) 16=n/65536^16:=by
    rw [Qdj (h:=limb (n/65536^16)) (n:=16) (fun i hi=>Qi5 n i 16) 16 (qR _),Qc8]
    exact Int.emod_eq_of_lt (Int.ediv_nonneg h.1 (Int.le_of_lt (Qfq 16))) (Int.ediv_lt_of_lt_mul (Qfq 16) (by rw [←Int.pow_add]; exact h.2))
  have e4:=Qhg (limb n) (fun i=>38*limb n (i+16)) 16
  have e5:=QhF 38 (fun i=>limb n (i+16)) 16
  rw [show (32:Nat)=16+16 from rfl,e0,e1,e2,e4,e5,e3,Qc8]
  unfold Qbx
  omega
theorem QgD (n : Int) (i:Nat):0≤Qck n i∧Qck n i≤2555865:=by
  unfold Qck
  have:=Qba n i
  have:=Qba n (i+16)
  split <;> omega
theorem four (n : Int) (h:0≤n∧n<65536^32):0≤Qbx n∧Qbx n<65536^32∧0≤Qbx (Qbx n)∧Qbx (Qbx n)<65536^32∧0≤Qbx (Qbx (Qbx n))∧Qbx (Qbx (Qbx n))<65536^32 ∧
    0≤Qbx (Qbx (Qbx (Qbx n)))∧Qbx (Qbx (Qbx (Qbx n)))<65536^16∧Qbx (Qbx (Qbx (Qbx n)))%57896044618658097711785492504343953926634992332820282019728792003956564819949=n%57896044618658097711785492504343953926634992332820282019728792003956564819949:=by
  have e1:(65536:Int)^16=115792089237316195423570985008687907853269984665640564039457584007913129639936:=by decide
  have e2:(65536:Int)^32=13407807929942597099574024998205846127479365820592393377723561443721764030073546976801874298166903427690031858186486050853753882811946569946433649006084096:=by decide
  have step:∀ m:Int,Qbx m=m-115792089237316195423570985008687907853269984665640564039457584007913129639898*(m/115792089237316195423570985008687907853269984665640564039457584007913129639936):=fun m=>by
    unfold Qbx; rw [e1]; omega
  rw [e1,e2] at *
  generalize hq1:n/115792089237316195423570985008687907853269984665640564039457584007913129639936=q1
  have s1:=step n
  rw [hq1] at s1
  have b1:0≤Qbx n∧Qbx n<4515891480255331621519268415338828406277529401959981997538845776308612055957504:=by omega
  generalize Qbx n=m1 at *
  have s2:=step m1
  generalize hq2:m1/115792089237316195423570985008687907853269984665640564039457584007913129639936=q2 at *
  have b2:0≤Qbx m1∧Qbx m1<115792089237316195423570985008687907853269984665640564039457584007913129639936+38*38:=by omega
  generalize Qbx m1=m2 at *
  have s3:=step m2
  generalize hq3:m2/115792089237316195423570985008687907853269984665640564039457584007913129639936=q3 at *
  have b3:0≤Qbx m2∧Qbx m2<115792089237316195423570985008687907853269984665640564039457584007913129639936:=by omega
  generalize Qbx m2=m3 at *
  have s4:=step m3
  generalize hq4:m3/115792089237316195423570985008687907853269984665640564039457584007913129639936=q4 at *
  have b4:0≤Qbx m3∧Qbx m3<115792089237316195423570985008687907853269984665640564039457584007913129639936:=by omega
  generalize Qbx m3=m4 at *
  refine ⟨by omega,by omega,by omega,by omega,by omega,by omega,by omega,by omega,?_⟩
  have:m4=n-2*57896044618658097711785492504343953926634992332820282019728792003956564819949*(q1+q2+q3+q4):=by omega
  omega
end Go.Proofs.YtdoadngmgmdlbaaDoor.Field
end
section
namespace Go.Proofs.YtdoadngmgmdlbaaDoor.Prime
def IsP (n : Nat):Prop:=1<n∧∀ d,d ∣ n→d=1∨d=n
def prods : List Nat→Nat
  | []=>1
  | q::l=>q*prods l
theorem onto : ∀ (n:Nat) (f:Nat→Nat),(∀ i,i<n→f i<n)→(∀ i j,i<n→j<n→f i=f j→i=j)→∀ y,y<n→∃ i,i<n∧f i=y
  | 0,_,_,_,y,hy=>absurd hy (Nat.not_lt_zero y)
  | n+1,f,hf,hi,y,hy=>by
    have key:∀ i,i<n→f i=n→f n<n:=fun i h e=>by
      have h1:=hf n (by omega)
      rcases Nat.lt_or_ge (f n) n with h2 | h2
      · exact h2
      · have:=hi i n (by omega) (by omega) (by omega)
        omega
    have IH:=onto n (fun i=>if f i=n then f n else f i) (fun i h=>by
        show (if f i=n then f n else f i)<n
        by_cases e:f i=n
        · rw [if_pos e]; exact key i h e
        · rw [if_neg e]; have:=hf i (by omega); omega)
      (fun i j h1 h2 h=>by
        have h':(if f i=n then f n else f i)=(if f j=n then f n else f j):=h
        by_cases e1:f i=n <;> by_cases e2:f j=n
        · exact hi i j (by omega) (by omega) (by omega)
        · rw [if_pos e1,if_neg e2] at h'
          have:=hi n j (by omega) (by omega) h'
          omega
        · rw [if_neg e1,if_pos e2] at h'
          have:=hi i n (by omega) (by omega) h'
          omega
        · rw [if_neg e1,if_neg e2] at h'
          exact hi i j (by omega) (by omega) h')
    have back:∀ z,z<n→∃ i,i<n+1∧f i=z:=fun z hz=>by
      obtain ⟨i,h1,h2⟩:=IH z hz
      have h2':(if f i=n then f n else f i)=z:=h2
      by_cases e:f i=n
      · rw [if_pos e] at h2'; exact ⟨n,by omega,h2'⟩
      · rw [if_neg e] at h2'; exact ⟨i,by omega,h2'⟩
    rcases Nat.lt_or_ge y n with h | h
    · exact back y h
    · have e:y=n:=by omega
      subst e
      by_cases e2:f y=y
      · exact ⟨y,by omega,e2⟩
      · have h3:f y<y:=by have:=hf y (by omega); omega
        obtain ⟨i,h1,h2⟩:=IH (f y) h3
        have h2':(if f i=y then f y else f i)=f y:=h2
        by_cases e3:f i=y
        · exact ⟨i,by omega,e3⟩
        · rw [if_neg e3] at h2'
          have:=hi i y (by omega) (by omega) h2'
          omega
theorem QdC (N a b k:Nat) (h:a%N=1%N):(a^k*b)%N=b%N:=by
  rw [Nat.mul_mod,Nat.pow_mod,h,←Nat.pow_mod,Nat.one_pow,←Nat.mul_mod,Nat.one_mul]
theorem QlW (N g:Nat):∀ m n,g^m%N=1%N→g^n%N=1%N→g^(Nat.gcd m n)%N=1%N:=by
  intro m n
  induction m,n using Nat.gcd.induction with
  | H0 n=>intro _ h; simpa using h
  | H1 m n hm ih =>
    intro h1 h2
    rw [Nat.gcd_rec]
    refine ih ?_ h1
    have e:g^n=(g^m)^(n/m)*g^(n%m):=by
      rw [←Nat.pow_mul,←Nat.pow_add,Nat.div_add_mod]
    rw [e,QdC N _ _ _ h1] at h2
    exact h2
theorem QgJ : ∀ (qs:List Nat) (e:Nat),(∀ q∈qs,IsP q)→e ∣ prods qs→1<e→∃ q∈qs,q ∣ e
  | [],e,_,h,h1=>by
    have:=Nat.le_of_dvd (by decide) h
    simp only [prods] at this
    omega
  | q::l,e,hq,h,h1=>by
    have hp:=hq q List.mem_cons_self
    rcases hp.2 (Nat.gcd q e) (Nat.gcd_dvd_left q e) with hg | hg
    · have h2:e ∣ prods l:=by
        have hc:Nat.Coprime e q:=by rw [Nat.Coprime,Nat.gcd_comm]; exact hg
        exact hc.dvd_of_dvd_mul_left h
      obtain ⟨r,h3,h4⟩:=QgJ l e (fun r hr=>hq r (List.mem_cons_of_mem _ hr)) h2 h1
      exact ⟨r,List.mem_cons_of_mem _ h3,h4⟩
    · exact ⟨q,List.mem_cons_self,by rw [←hg]; exact Nat.gcd_dvd_right q e⟩
theorem order (N g:Nat) (qs:List Nat) (h1:1<N) (hq:∀ q∈qs,IsP q) (hprod:prods qs=N-1) (hne:∀ q∈qs,g^((N-1)/q)%N≠1)
    (hone:g^(N-1)%N=1) (m:Nat) (hm:0<m) (hlt:m<N-1) (h:g^m%N=1):False:=by
  have e1:1%N=1:=Nat.mod_eq_of_lt h1
  have hd:=QlW N g m (N-1) (by rw [e1]; exact h) (by rw [e1]; exact hone)
  have d1:Nat.gcd m (N-1) ∣ N-1:=Nat.gcd_dvd_right _ _
  have d2:Nat.gcd m (N-1)≤m:=Nat.le_of_dvd hm (Nat.gcd_dvd_left _ _)
  generalize hD:Nat.gcd m (N-1)=d at *
  obtain ⟨e,he⟩:=d1
  have epos:1<e:=by
    rcases (by omega:e=0∨e=1∨1<e) with h0 | h0 | h0
    · subst h0; simp at he; omega
    · subst h0; simp at he; omega
    · exact h0
  obtain ⟨q,hq1,hq2⟩:=QgJ qs e hq (by rw [hprod,he]; exact Nat.dvd_mul_left e d) epos
  obtain ⟨r,hr⟩:=hq2
  have qpos:0<q:=by have:=(hq q hq1).1; omega
  refine hne q hq1 ?_
  have e3:(N-1)/q=d*r:=by
    rw [he,hr,show d*(q*r)=q*(d*r) by rw [←Nat.mul_assoc,Nat.mul_comm d q,Nat.mul_assoc]]
    exact Nat.mul_div_cancel_left _ qpos
  have:=QdC N (g^d) 1 r hd
  rw [Nat.mul_one,←Nat.pow_mul,e1] at this
  rw [e3]
  exact this
theorem QiH (N g:Nat) (qs:List Nat) (h1:1<N) (hq:∀ q∈qs,IsP q) (hprod:prods qs=N-1) (hne:∀ q∈qs,g^((N-1)/q)%N≠1)
    (hone:g^(N-1)%N=1) (a:Nat) (ha:0<a) (hlt:a<N):∃ k,g^k%N=a:=by
  have e1:1%N=1:=Nat.mod_eq_of_lt h1
  have hone':g^(N-1)%N=1%N:=by rw [e1]; exact hone
  have up:∀ b,(g^(N-1)*b)%N=b%N:=fun b=>by
    have:=QdC N (g^(N-1)) b 1 hone'
    rwa [Nat.pow_one] at this
  have hpos:∀ i,i<N-1→0<g^i%N:=fun i hi=>by
    rcases Nat.eq_zero_or_pos (g^i%N) with h | h
    · have:g^(N-1)%N=0:=by
        rw [show N-1=i+(N-1-i) by omega,Nat.pow_add,Nat.mul_mod,h,Nat.zero_mul,Nat.zero_mod]
      omega
    · exact h
  have inj:∀ i j,i<j→j<N-1→g^i%N=g^j%N→False:=fun i j hij hj h=>by
    refine order N g qs h1 hq hprod hne hone (j-i) (by omega) (by omega) ?_
    have e2:(g^(N-1-i)*g^i)%N=(g^(N-1-i)*g^j)%N:=by rw [Nat.mul_mod,h,←Nat.mul_mod]
    rw [←Nat.pow_add,←Nat.pow_add,show N-1-i+i=N-1 by omega,show N-1-i+j=N-1+(j-i) by omega,Nat.pow_add,up,hone] at e2
    exact e2.symm
  obtain ⟨i,h2,h3⟩:=onto (N-1) (fun i=>g^i%N-1) (fun i hi=>by
      show g^i%N-1<N-1
      have:=hpos i hi
      have:=Nat.mod_lt (g^i) (show 0<N by omega)
      omega)
    (fun i j hi hj h=>by
      have h':g^i%N-1=g^j%N-1:=h
      have:=hpos i hi
      have:=hpos j hj
      rcases Nat.lt_trichotomy i j with h4 | h4 | h4
      · exact (inj i j h4 hj (by omega)).elim
      · exact h4
      · exact (inj j i h4 hi (by omega)).elim) (a-1) (by omega)
  have h3':g^i%N-1=a-1:=h3
  have:=hpos i h2
  exact ⟨i,by omega⟩
theorem QgG (N g:Nat) (h1:1<N) (hone:g^(N-1)%N=1) (hall:∀ a,0<a→a<N→∃ k,g^k%N=a) (a:Nat) (ha:a%N≠0):a^(N-1)%N=1:=by
  obtain ⟨k,hk⟩:=hall (a%N) (by omega) (Nat.mod_lt _ (by omega))
  have e1:1%N=1:=Nat.mod_eq_of_lt h1
  rw [Nat.pow_mod,←hk,←Nat.pow_mod,←Nat.pow_mul,Nat.mul_comm,Nat.pow_mul,Nat.pow_mod,hone,Nat.one_pow,e1]
theorem Qkw (N g:Nat) (h1:1<N) (hone:g^(N-1)%N=1) (hall:∀ a,0<a→a<N→∃ k,g^k%N=a):IsP N:=by
  refine ⟨h1,fun d hd=>?_⟩
  have hle:=Nat.le_of_dvd (by omega) hd
  rcases Nat.eq_or_lt_of_le hle with h | h
  · exact .inr h
  · left
    have d0:0<d:=Nat.pos_of_dvd_of_pos hd (by omega)
    have hf:=QgG N g h1 hone hall d (by rw [Nat.mod_eq_of_lt h]; omega)
    by_cases hN:N-1=0
    · omega
    · have h2:d ∣ d^(N-1):=by
        rw [show N-1=(N-2)+1 by omega,Nat.pow_succ]
        exact Nat.dvd_mul_left d _
      have h3:d ∣ d^(N-1)%N:=(Nat.dvd_mod_iff hd).2 h2
      rw [hf] at h3
      exact Nat.dvd_one.1 h3
def pm (N : Nat):Nat→Nat→Nat→Nat
  | 0,_,_=>1%N
  | f+1,g,e=>let h:=pm N f (g*g%N) (e/2); if e%2=1 then g*h%N else h
theorem pm_eq (N : Nat):∀ f g e,e<2^f→pm N f g e=g^e%N
  | 0,g,e,h=>by
    have:e=0:=by simpa using h
    subst this
    simp [pm]
  | f+1,g,e,h=>by
    have hm:g*g%N%N=g*g%N:=Nat.mod_mod _ _
    have ih:=pm_eq N f (g*g%N) (e/2) (by rw [Nat.pow_succ] at h; omega)
    have e2:(g*g%N)^(e/2)%N=(g*g)^(e/2)%N:=by rw [Nat.pow_mod,hm,←Nat.pow_mod]
    have e3:(g*g)^(e/2)=g^(2*(e/2)):=by rw [Nat.pow_mul,Nat.pow_succ,Nat.pow_one]
    simp only [pm]
    rw [ih,e2,e3]
    by_cases ho:e%2=1
    · rw [if_pos ho]
      have:g^e=g*g^(2*(e/2)):=by
        rw [Nat.mul_comm,←Nat.pow_succ]
        congr 1
        omega
      rw [this,Nat.mul_mod,Nat.mod_mod,←Nat.mul_mod]
    · rw [if_neg ho]
      congr 2
      omega
def QkE (q : Nat):Nat→Bool
  | 0=>true
  | k+1=>(decide (k+2=q) || q%(k+2) != 0)&&QkE q k
theorem Qes (q : Nat):∀ k,QkE q k=true→∀ d,2≤d→d<k+2→d ∣ q→d=q
  | 0,_,d,h1,h2,_=>by omega
  | k+1,h,d,h1,h2,h3=>by
    simp only [QkE,Bool.and_eq_true,Bool.or_eq_true,decide_eq_true_eq,bne_iff_ne,ne_eq] at h
    rcases Nat.lt_or_ge d (k+2) with h4 | h4
    · exact Qes q k h.2 d h1 h4 h3
    · have:d=k+2:=by omega
      subst this
      rcases h.1 with h5 | h5
      · exact h5
      · exact absurd (Nat.mod_eq_zero_of_dvd h3) h5
theorem Qa7 (q k:Nat) (h:(decide (1<q)&&decide (q<(k+2)*(k+2))&&QkE q k)=true):IsP q:=by
  simp only [Bool.and_eq_true,decide_eq_true_eq] at h
  obtain ⟨⟨h1,h2⟩,h3⟩:=h
  refine ⟨h1,fun d hd=>?_⟩
  obtain ⟨e,he⟩:=hd
  have dpos:0<d:=by
    rcases Nat.eq_zero_or_pos d with h | h; · subst h; simp at he; omega
    · exact h
  have epos:0<e:=by
    rcases Nat.eq_zero_or_pos e with h | h; · subst h; simp at he; omega
    · exact h
  rcases (by omega:d=1∨2≤d) with h4 | h4
  · exact .inl h4
  · rcases (by omega:e=1∨2≤e) with h5 | h5
    · subst h5; right; omega
    · rcases Nat.lt_or_ge d (k+2) with h6 | h6
      · right; exact Qes q k h3 d h4 h6 ⟨e,he⟩
      · rcases Nat.lt_or_ge e (k+2) with h7 | h7
        · have:=Qes q k h3 e h5 h7 ⟨d,by rw [he,Nat.mul_comm]⟩
          left
          rw [this] at he
          have:q*1=q*d:=by rw [Nat.mul_one,Nat.mul_comm]; exact he
          exact (Nat.eq_of_mul_eq_mul_left (by omega) this).symm
        · have:=Nat.mul_le_mul h6 h7
          omega
def Ql7 (N g:Nat) (qs:List Nat):Bool:=decide (1<N)&&decide (N<2^256)&&decide (prods qs=N-1)&&(pm N 256 g (N-1)==1)&&qs.all fun q=>pm N 256 g ((N-1)/q) != 1
theorem cert (N g:Nat) (qs:List Nat) (hq:∀ q∈qs,IsP q) (h:Ql7 N g qs=true):IsP N∧(∀ a,a%N≠0→a^(N-1)%N=1)∧∀ a,0<a→a<N→∃ k,g^k%N=a:=by
  simp only [Ql7,Bool.and_eq_true,decide_eq_true_eq,beq_iff_eq,List.all_eq_true,bne_iff_ne,ne_eq] at h
  obtain ⟨⟨⟨⟨h1,h2⟩,h3⟩,h4⟩,h5⟩:=h
  rw [pm_eq N 256 g (N-1) (by omega)] at h4
  have hne:∀ q∈qs,g^((N-1)/q)%N≠1:=fun q hm=>by
    have:=h5 q hm
    rwa [pm_eq N 256 g _ (by have:=Nat.div_le_self (N-1) q; omega)] at this
  have hall:=QiH N g qs h1 hq h3 hne h4
  exact ⟨Qkw N g h1 h4 hall,QgG N g h1 h4 hall,hall⟩
theorem p2 : IsP 2:=Qa7 2 0 (by decide +kernel)
theorem p3 : IsP 3:=Qa7 3 0 (by decide +kernel)
theorem p5 : IsP 5:=Qa7 5 1 (by decide +kernel)
theorem p7 : IsP 7:=Qa7 7 1 (by decide +kernel)
theorem p13 : IsP 13:=Qa7 13 2 (by decide +kernel)
theorem p19 : IsP 19:=Qa7 19 3 (by decide +kernel)
theorem p31 : IsP 31:=Qa7 31 4 (by decide +kernel)
theorem p47 : IsP 47:=Qa7 47 5 (by decide +kernel)
theorem p103 : IsP 103:=Qa7 103 9 (by decide +kernel)
theorem p107 : IsP 107:=Qa7 107 9 (by decide +kernel)
theorem p127 : IsP 127:=Qa7 127 10 (by decide +kernel)
theorem p223 : IsP 223:=Qa7 223 13 (by decide +kernel)
theorem p353 : IsP 353:=Qa7 353 17 (by decide +kernel)
theorem p991 : IsP 991:=Qa7 991 30 (by decide +kernel)
theorem Qoa : IsP 2437:=Qa7 2437 48 (by decide +kernel)
theorem QnZ : IsP 4153:=Qa7 4153 63 (by decide +kernel)
theorem Qny : IsP 57467:=Qa7 57467 238 (by decide +kernel)
theorem Qnx : IsP 65147:=Qa7 65147 254 (by decide +kernel)
theorem Qnw : IsP 75707:=Qa7 75707 274 (by decide +kernel)
theorem Qmk : IsP 132049:=Qa7 132049 362 (by decide +kernel)
theorem Qmj : IsP 430751:=Qa7 430751 655 (by decide +kernel)
theorem Qmi : IsP 569003:=Qa7 569003 753 (by decide +kernel)
theorem Qk4 : IsP 1923133:=Qa7 1923133 1385 (by decide +kernel)
theorem Qk3 : IsP 8574133:=(cert 8574133 2 [2,2,3,7,103,991] (by
  intro q hq
  simp only [List.mem_cons,List.not_mem_nil,or_false] at hq
  rcases hq with rfl | rfl | rfl | rfl | rfl | rfl
  · exact p2
  · exact p2
  · exact p3
  · exact p7
  · exact p103
  · exact p991
) (by decide +kernel)).1
theorem Qhj : IsP 2773320623:=(cert 2773320623 5 [2,2437,569003] (by
  intro q hq
  simp only [List.mem_cons,List.not_mem_nil,or_false] at hq
  rcases hq with rfl | rfl | rfl
  · exact p2
  · exact Qoa
  · exact Qmi
) (by decide +kernel)).1
theorem Qg0 : IsP 72106336199:=(cert 72106336199 7 [2,13,2773320623] (by
  intro q hq
  simp only [List.mem_cons,List.not_mem_nil,or_false] at hq
  rcases hq with rfl | rfl | rfl
  · exact p2
  · exact p13
  · exact Qhj
) (by decide +kernel)).1
theorem Qer : IsP 1919519569386763:=(cert 1919519569386763 2 [2,3,7,19,47,47,127,8574133] (by
  intro q hq
  simp only [List.mem_cons,List.not_mem_nil,or_false] at hq
  rcases hq with rfl | rfl | rfl | rfl | rfl | rfl | rfl | rfl
  · exact p2
  · exact p3
  · exact p7
  · exact p19
  · exact p47
  · exact p47
  · exact p127
  · exact Qk3
) (by decide +kernel)).1
theorem QbO : IsP 75445702479781427272750846543864801:=(cert 75445702479781427272750846543864801 7 [2,2,2,2,2,3,3,5,5,75707,72106336199,1919519569386763] (by
  intro q hq
  simp only [List.mem_cons,List.not_mem_nil,or_false] at hq
  rcases hq with rfl | rfl | rfl | rfl | rfl | rfl | rfl | rfl | rfl | rfl | rfl | rfl
  · exact p2
  · exact p2
  · exact p2
  · exact p2
  · exact p2
  · exact p3
  · exact p3
  · exact p5
  · exact p5
  · exact Qnw
  · exact Qg0
  · exact Qer
) (by decide +kernel)).1
theorem Qeb : IsP 31757755568855353:=(cert 31757755568855353 10 [2,2,2,3,31,107,223,4153,430751] (by
  intro q hq
  simp only [List.mem_cons,List.not_mem_nil,or_false] at hq
  rcases hq with rfl | rfl | rfl | rfl | rfl | rfl | rfl | rfl | rfl
  · exact p2
  · exact p2
  · exact p2
  · exact p3
  · exact p31
  · exact p107
  · exact p223
  · exact QnZ
  · exact Qmj
) (by decide +kernel)).1
theorem QaO : IsP 74058212732561358302231226437062788676166966415465897661863160754340907:=(cert 74058212732561358302231226437062788676166966415465897661863160754340907 2 [2,3,353,57467,132049,1923133,31757755568855353,75445702479781427272750846543864801] (by
  intro q hq
  simp only [List.mem_cons,List.not_mem_nil,or_false] at hq
  rcases hq with rfl | rfl | rfl | rfl | rfl | rfl | rfl | rfl
  · exact p2
  · exact p3
  · exact p353
  · exact Qny
  · exact Qmk
  · exact Qk4
  · exact Qeb
  · exact QbO
) (by decide +kernel)).1
theorem p25519 : IsP 57896044618658097711785492504343953926634992332820282019728792003956564819949∧(∀ a,a%57896044618658097711785492504343953926634992332820282019728792003956564819949≠0→a^(57896044618658097711785492504343953926634992332820282019728792003956564819949-1)%57896044618658097711785492504343953926634992332820282019728792003956564819949=1)∧∀ a,0<a→a<57896044618658097711785492504343953926634992332820282019728792003956564819949→∃ k,2^k%57896044618658097711785492504343953926634992332820282019728792003956564819949=a:=cert 57896044618658097711785492504343953926634992332820282019728792003956564819949 2 [2,2,3,65147,74058212732561358302231226437062788676166966415465897661863160754340907] (by
  intro q hq
  simp only [List.mem_cons,List.not_mem_nil,or_false] at hq
  rcases hq with rfl | rfl | rfl | rfl | rfl
  · exact p2
  · exact p2
  · exact p3
  · exact Qnx
  · exact QaO
) (by decide +kernel)
end Go.Proofs.YtdoadngmgmdlbaaDoor.Prime
end
end
