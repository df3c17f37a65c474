/- Texts of this claim, joined (MD3). -/
import Derived.Test.YthfkppjajmjpnaaDoorZMD2

set_option linter.unusedVariables false
set_option linter.unusedSimpArgs false
set_option maxHeartbeats 4000000
section
namespace Go.Proofs.YthfkppjajmjpnaaDoor.Wr
open Go Go.RowKit
open Rely Auto Own Sha
theorem typW {W : World} {a b:Nat} {c d:Array Value} {s t:TypeId} (h:W.heap[a]? = some (.cells c s)) (k:W.heap[b]? = some (.cells d t)) (hn:s≠t):a≠b:=fun e=>by
  subst e
  rw [h] at k
  simp only [Option.some.injEq,Obj.cells.injEq] at k
  exact hn k.2.1
theorem own_typ {k : IntKind} {T:TypeId} {base:Nat} {xs:List Int} {v:Value} {W:World} (h:OwnN k T base xs v W) {g:Nat} (hg:v.ownBlock=some g):∃ cur,W.heap[g]? = some (.cells cur T):=by
  rcases h.1.2 with ⟨rfl,_⟩ | ⟨g',c,cur,rfl,q2,q3,_⟩
  · cases hg
  · obtain rfl:g'=g:=Option.some.inj hg
    exact ⟨cur,q3⟩
theorem nb_typ {k : IntKind} {T T':TypeId} {base g:Nat} {xs:List Int} {v:Value} {W:World} {c:Array Value} (h:OwnN k T base xs v W) (r:W.heap[g]? = some (.cells c T')) (hn:T≠T'):v.ownBlock≠some g:=fun e=>by
  obtain ⟨cur,q⟩:=own_typ h e
  exact typW q r hn rfl
theorem ownN_but {k : IntKind} {T:TypeId} {b g:Nat} {xs:List Int} {v:Value} {W W':World} (h:OwnN k T b xs v W) (q:ExtB g W W') (hn:v.ownBlock≠some g):OwnN k T b xs v W':=h.keep fun k hk=>q.2.2.2.2 k (h.lt hk) (fun e=>hn (by rw [hk,e]))
theorem nb_old {k : IntKind} {T:TypeId} {base g:Nat} {xs:List Int} {v:Value} {W:World} (h:OwnN k T base xs v W) (hg:g<base):v.ownBlock≠some g:=fun e=>by
  have:=h.ge e
  omega
theorem Qco {a b:List Int} (ha:Qax a) (hb:Qax b):Qax (a++b):=fun x hx=>(List.mem_append.1 hx).elim (ha x) (hb x)
structure GW (base gw : Nat) (w W : World) : Prop where
  os:W.os=w.os
  tape:W.tape=w.tape
  output:W.output=w.output
  size:w.heap.size≤W.heap.size
  block:∀ k,k<w.heap.size→k≠gw→(k<base∨∀ cs fr,w.heap[k]?≠some (.cells cs 5 fr))→W.heap[k]? = w.heap[k]?
theorem GW.refl (base gw:Nat) (w:World):GW base gw w w:=⟨rfl,rfl,rfl,qR _,fun _ _ _ _=>rfl⟩
theorem GW.trans {base gw:Nat} {u w W:World} (h:GW base gw u w) (k:GW base gw w W):GW base gw u W :=
  ⟨k.os.trans h.os,k.tape.trans h.tape,k.output.trans h.output,qT h.size k.size,fun i hi hn hc=>by
    have e:=h.block i hi hn hc
    refine (k.block i (qL hi h.size) hn ?_).trans e
    rcases hc with hc | hc
    · exact .inl hc
    · exact .inr fun cs fr=>by rw [e]; exact hc cs fr⟩
theorem GW.of_ext {base gw:Nat} {w W:World} (e:Ext w W):GW base gw w W:=⟨e.os,e.tape,e.output,e.size,fun k hk _ _=>e.block k hk⟩
theorem GW.ext {base gw:Nat} {u w W:World} (h:GW base gw u w) (e:Ext w W):GW base gw u W:=h.trans (GW.of_ext e)
theorem GW.of_but {base gw:Nat} {w W:World} (e:ExtB gw w W):GW base gw w W:=⟨e.1,e.2.1,e.2.2.1,e.2.2.2.1,fun k hk hn _=>e.2.2.2.2 k hk hn⟩
theorem GW.put {base gw g:Nat} {u w W:World} (h:GW base gw u w) (p:Puts w g W) (hg:u.heap.size≤g):GW base gw u W :=
  ⟨p.1.trans h.os,p.2.1.trans h.tape,p.2.2.1.trans h.output,by have:=h.size; have:=p.2.2.2.1; omega,fun k hk hn hc=>(p.2.2.2.2 k (by omega)).trans (h.block k hk hn hc)⟩
theorem GW.putg {base gw:Nat} {u w W:World} (h:GW base gw u w) (p:Puts w gw W):GW base gw u W :=
  ⟨p.1.trans h.os,p.2.1.trans h.tape,p.2.2.1.trans h.output,by have:=h.size; have:=p.2.2.2.1; omega,fun k hk hn hc=>(p.2.2.2.2 k hn).trans (h.block k hk hn hc)⟩
theorem GW.row {base gw g:Nat} {w W:World} {c:Array Value} {T:TypeId} (h:GW base gw w W) (r:w.heap[g]? = some (.cells c T)) (hT:T≠5) (hn:g≠gw):W.heap[g]? = some (.cells c T) :=
  (h.block g (Qa5 r) hn (.inr fun cs fr e=>by rw [r] at e; simp only [Option.some.injEq,Obj.cells.injEq] at e; exact hT e.2.1)).trans r
def WSt (base gw:Nat) (s:Option (List Int)) (W:World):Prop:=∃ (u:Value) (xs:List Int) (bad:Bool),W.heap[gw]? = some (.cells #[u,.bool bad] 111)∧OwnN .u8 5 base xs u W∧xs.length≤65536∧Qax xs∧s=bif bad then none else some xs
theorem WSt.lt {base gw:Nat} {s:Option (List Int)} {W:World} (h:WSt base gw s W):gw<W.heap.size:=by
  obtain ⟨u,xs,bad,h1,-⟩:=h
  exact Qa5 h1
theorem WSt.ext {base gw:Nat} {s:Option (List Int)} {w W:World} (h:WSt base gw s w) (e:Ext w W):WSt base gw s W:=by
  obtain ⟨u,xs,bad,h1,h2,h3⟩:=h
  exact ⟨u,xs,bad,Qae h1 e,h2.ext e,h3⟩
theorem WSt.put {base gw g:Nat} {s:Option (List Int)} {w W:World} {c:Array Value} {T:TypeId} (h:WSt base gw s w) (p:Puts w g W) (r:w.heap[g]? = some (.cells c T)) (hT:T≠5) (hn:gw≠g):WSt base gw s W:=by
  obtain ⟨u,xs,bad,h1,h2,h3⟩:=h
  exact ⟨u,xs,bad,Puts.row p h1 hn,h2.puts p (nb_typ h2 r (Ne.symm hT)),h3⟩
def rawS (s : Option (List Int)) (ys:List Int):Option (List Int):=s.bind fun xs=>if xs.length+ys.length≤65536 then some (xs++ys) else none
def byV (n : Int) (k:Nat):Int:=IntKind.u8.wrap (n.fdiv (2^(8*k)))
theorem Qe1 (n : Int) (k:Nat):Qax [byV n k]:=fun x hx=>by
  simp only [List.mem_cons,List.not_mem_nil,or_false] at hx
  subst hx
  have h3:∀ z:Int,IntKind.u8.wrap z=z%256:=fun _=>rfl
  unfold byV
  rw [h3]; omega
def numR (n : Int):Nat→Option (List Int)→Option (List Int)
  | 0,s=>s
  | k+1,s=>numR n k (rawS s [byV n k])
def okN (n : Int) (size:Nat):Bool:=decide (0≤n)&&(n.fdiv (2^(8*size))==0)
def Qb0 (s : Option (List Int)) (ok:Bool):Option (List Int):=bif ok then s else none
def numS (s : Option (List Int)) (n:Int) (size:Nat):Option (List Int):=numR n size (Qb0 s (okN n size))
def Qcm (s : Option (List Int)) (n:Int):Option (List Int):=numS (Qb0 s (decide (n<32))) n 1
end Go.Proofs.YthfkppjajmjpnaaDoor.Wr
end
section
namespace Go.Proofs.YthfkppjajmjpnaaDoor.Wr
open Go Go.RowKit
open Rely Auto Own Sha
theorem Qma (gw : Nat) (u:Value) (ok:Bool) (w:World) (hg:w.heap[gw]? = some (.cells #[u,.bool true] 111)):Calls Tryd.prog 85 #[.pointer (some ⟨gw,0,none⟩),.bool ok] w (fun e W=>e=.returned (.tuple #[])∧ExtB gw w W∧W.heap[gw]? = some (.cells (cat [#[u],#[.bool true]]) 111)):=by
  refine enter 15 [(0,.pointer (some ⟨gw,0,none⟩)),(1,.bool ok)] Tryd.func85 rfl rfl kj rfl <| Qad <| sg 4 kj <| Qaa (.bool true) 8 rfl kj (Qaf 4 _ gw 1 111 _ (.bool true) _ hg rfl kj kj kj) <| sg 6 kj <| Qav gw _ (cat [#[u],#[.bool true]]) 111 hg rfl kj (QaX 4 _ _ gw 1 111 _ (.bool true) hg rfl kj kj kj kj kj rfl) fun W1 p1 r1_1=>Qaj ?_
  repeat (first | with_reducible refine goX1 ?_ | with_reducible refine goX2 ?_ | with_reducible refine goX3 ?_)
  exact (show bodyPost _ _ _ .normal _ _ from end0 rfl ⟨rfl,(ExtB.puts (ExtB.refl gw w) p1),r1_1⟩)
theorem QlZ (gw : Nat) (u:Value) (ok:Bool) (w:World) (hg:w.heap[gw]? = some (.cells #[u,.bool false] 111)):Calls Tryd.prog 85 #[.pointer (some ⟨gw,0,none⟩),.bool ok] w (fun e W=>e=.returned (.tuple #[])∧ExtB gw w W∧W.heap[gw]? = some (.cells (cat [#[u],#[.bool (!ok)]]) 111)):=by
  refine enter 15 [(0,.pointer (some ⟨gw,0,none⟩)),(1,.bool ok)] Tryd.func85 rfl rfl kj rfl <| Qad <| sg 4 kj <| Qaa (.bool false) 8 rfl kj (Qaf 4 _ gw 1 111 _ (.bool false) _ hg rfl kj kj kj) <| sg 6 kj <| Qav gw _ (cat [#[u],#[.bool (!ok)]]) 111 hg rfl kj (QaX 4 _ _ gw 1 111 _ (.bool (!ok)) hg rfl kj kj kj kj kj rfl) fun W1 p1 r1_1=>Qaj ?_
  repeat (first | with_reducible refine goX1 ?_ | with_reducible refine goX2 ?_ | with_reducible refine goX3 ?_)
  exact (show bodyPost _ _ _ .normal _ _ from end0 rfl ⟨rfl,(ExtB.puts (ExtB.refl gw w) p1),r1_1⟩)
theorem QiY (gw : Nat) (u:Value) (bad ok:Bool) (w:World) (hg:w.heap[gw]? = some (.cells #[u,.bool bad] 111)):Calls Tryd.prog 85 #[.pointer (some ⟨gw,0,none⟩),.bool ok] w (fun e W=>e=.returned (.tuple #[])∧ExtB gw w W∧W.heap[gw]? = some (.cells #[u,.bool (bad || !ok)] 111)):=by
  cases bad with
  | true=>exact Qma gw u ok w hg
  | false=>exact QlZ gw u ok w hg
theorem Qhh (base gw:Nat) (s:Option (List Int)) (ok:Bool) (w:World) (h:WSt base gw s w):Calls Tryd.prog 85 #[.pointer (some ⟨gw,0,none⟩),.bool ok] w (fun e W=>e=.returned (.tuple #[])∧GW base gw w W∧WSt base gw (Qb0 s ok) W):=by
  obtain ⟨u,xs,bad,h1,h2,h3,h4,rfl⟩:=h
  refine (QiY gw u bad ok w h1).mono fun e W hh=>⟨hh.1,GW.of_but hh.2.1,u,xs,_,hh.2.2,?_,h3,h4,?_⟩
  · exact h2.keep fun g hg=>hh.2.1.2.2.2.2 g (h2.lt hg) (fun e=>nb_typ h2 h1 (by decide) (by rw [hg,e]))
  · cases bad <;> cases ok <;> rfl
end Go.Proofs.YthfkppjajmjpnaaDoor.Wr
end
section
namespace Go.Proofs.YthfkppjajmjpnaaDoor.Wr
open Go Go.RowKit
open Rely Auto Own Sha
section
variable {ds : List Deferred} {P : Program} {ops : Array Oper} {Q : Exit → Act → World → Prop} {rest : List Oper} {o : Oper} {N : Nat} {L : Env} {W : World}
theorem QfX (base gw b:Nat) (s x:Operand) (t:TypeId) (ho:o.op=.call { callee:=.builtin .append,args:=#[s,x],argTypes:=#[t,t] })
    (ht:P.underlying t=some (.slice 5)) (hi:(P.info? 5).map (fun i=>(i.zero,i.size,i.bytes))=some (some (.int .u8 0),1,b)) (hb8:b≤8) (d:Nat) (hd:o.dst=some d) (hg:Qby ops o N L=some true) {B:Nat} {v y:Value} {xs ys:List Int}
    (hs:Rely.look (envN N L) s=v) (hx:Rely.look (envN N L) x=y) (h:OwnN .u8 5 base xs v W) (hy:RdK .u8 B ys y W) (hn:xs.length+ys.length≤1000000000) (hV:base≤W.heap.size) {c:Array Value} (r:W.heap[gw]? = some (.cells c 111))
    (kk:∀ (u:Value) (W':World),OwnN .u8 5 base (xs++ys) u W'→GW base gw W W'→W'.heap[gw]? = some (.cells c 111)→WL P ops Q rest (Qa3 ds N ((d,u)::L)) W'):WL P ops Q (o::rest) (Qa3 ds N L) W:=by
  obtain ⟨v',W',h1,h2,h3,h4⟩:=QdW (ρ:=Rely.look (envN N L)) (o:=o) (W:=W) s x t ho ht hi hb8 hs hx h hy hn hV
  refine QbW _ _ d hd hg h1 (kk v' W' h2 ⟨h3.os,h3.tape,h3.output,h3.size,fun i hi hne hc=>h3.block i hi (fun q=>?_)⟩ ((h3.block gw (Qa5 r) (fun q=>nb_typ h r (by decide) q.symm)).trans r))
  rcases hc with hc | hc
  · have:=h.ge q.symm; omega
  · obtain ⟨cur,e⟩:=own_typ h q.symm
    exact hc cur _ e
end
theorem QmC (base gw:Nat) (u v:Value) (xs ys:List Int) (w:World) (hbw:base≤w.heap.size) (hg:w.heap[gw]? = some (.cells #[u,.bool true] 111)) (ho:OwnN .u8 5 base xs u w) (hxl:xs.length≤65536) (hyl:ys.length≤1000000) (hst:∀ W,ExtB gw w W→RdK .u8 W.heap.size ys v W) (ok:Bool) (hok:decide (((xs.length+ys.length:Nat):Int)≤65536)=ok) :
    Calls Tryd.prog 87 #[.pointer (some ⟨gw,0,none⟩),v] w (fun e W=>e=.returned (.tuple #[])∧GW base gw w W∧∃ u',W.heap[gw]? = some (.cells (cat [#[u'],#[.bool true]]) 111)∧OwnN .u8 5 base (xs) u' W):=by
  obtain ⟨a_u,c_u,rfl,-⟩:=id (OwnN.rd ho)
  obtain ⟨a_y,c_y,rfl,-⟩:=id (hst _ (ExtB.refl gw w))
  refine enter 29 [(0,.pointer (some ⟨gw,0,none⟩)),(1,.slice a_y ys.length c_y)] Tryd.func87 rfl rfl kj rfl <| sgC fun K2 hK2=>sg 4 kj <| Qaa (.slice a_u xs.length c_u) 8 rfl kj (Qaf 59 _ gw 0 111 _ (.slice a_u xs.length c_u) _ hg rfl kj kj kj) <| sg 3 kj <| Qaa (.int .i64 ((xs.length+ys.length:Nat):Int)) 12 rfl kj (Qag (u:=.int .i64 (IntKind.i64.wrap (((xs.length:Nat):Int)+((ys.length:Nat):Int)))) kj (congrArg (Value.int .i64) (i64n _ _ (by omega) (by omega)))) <| Qaa (.bool (ok)) 13 rfl kj (Qag (u:=.bool (decide (((xs.length+ys.length:Nat):Int)≤65536))) kj (congrArg Value.bool hok)) <| Qa0 (fun v W'=>v=.tuple #[]∧ExtB gw w W'∧W'.heap[gw]? = some (.cells (cat [#[.slice a_u xs.length c_u],#[.bool true]]) 111)) 85 #[.pointer (some ⟨gw,0,none⟩),.bool (ok)] 14 rfl kj kj ((QiY gw _ _ _ _ hg).mono (by intro e w' h; exact ⟨_,h.1,rfl,h.2⟩)) fun v W1 h3=>?_
  obtain ⟨rfl,q1,r1_1⟩:=h3
  have x1:GW base gw w W1:=GW.trans (GW.refl base gw w) (GW.of_but q1)
  refine sgN hK2 <| sgC fun K4 hK4=>sg 3 kj <| Qaa (.bool true) 18 rfl kj (Qaf 4 _ gw 1 111 _ (.bool true) _ r1_1 rfl kj kj kj) <| sg 1 kj <| sgN hK4 <| cond_false kj <| wp_skip ?_
  repeat (first | with_reducible refine goX1 ?_ | with_reducible refine goX2 ?_ | with_reducible refine goX3 ?_)
  have f5_1:=(ownN_but ho q1 (nb_typ ho hg (by decide)))
  exact (show bodyPost _ _ _ .normal _ _ from end0 rfl ⟨rfl,x1,_,r1_1,f5_1⟩)
theorem QmB (base gw:Nat) (u v:Value) (xs ys:List Int) (w:World) (hbw:base≤w.heap.size) (hg:w.heap[gw]? = some (.cells #[u,.bool false] 111)) (ho:OwnN .u8 5 base xs u w) (hxl:xs.length≤65536) (hyl:ys.length≤1000000) (hst:∀ W,ExtB gw w W→RdK .u8 W.heap.size ys v W) (h:65536<xs.length+ys.length) :
    Calls Tryd.prog 87 #[.pointer (some ⟨gw,0,none⟩),v] w (fun e W=>e=.returned (.tuple #[])∧GW base gw w W∧∃ u',W.heap[gw]? = some (.cells (cat [#[u'],#[.bool true]]) 111)∧OwnN .u8 5 base (xs) u' W):=by
  obtain ⟨a_u,c_u,rfl,-⟩:=id (OwnN.rd ho)
  obtain ⟨a_y,c_y,rfl,-⟩:=id (hst _ (ExtB.refl gw w))
  refine enter 29 [(0,.pointer (some ⟨gw,0,none⟩)),(1,.slice a_y ys.length c_y)] Tryd.func87 rfl rfl kj rfl <| sgC fun K2 hK2=>sg 4 kj <| Qaa (.slice a_u xs.length c_u) 8 rfl kj (Qaf 59 _ gw 0 111 _ (.slice a_u xs.length c_u) _ hg rfl kj kj kj) <| sg 3 kj <| Qaa (.int .i64 ((xs.length+ys.length:Nat):Int)) 12 rfl kj (Qag (u:=.int .i64 (IntKind.i64.wrap (((xs.length:Nat):Int)+((ys.length:Nat):Int)))) kj (congrArg (Value.int .i64) (i64n _ _ (by omega) (by omega)))) <| Qaa (.bool false) 13 rfl kj (Qag (u:=.bool (decide (((xs.length+ys.length:Nat):Int)≤65536))) kj (congrArg Value.bool (decide_eq_false (by omega)))) <| Qa0 (fun v W'=>v=.tuple #[]∧ExtB gw w W'∧W'.heap[gw]? = some (.cells (cat [#[.slice a_u xs.length c_u],#[.bool true]]) 111)) 85 #[.pointer (some ⟨gw,0,none⟩),.bool false] 14 rfl kj kj ((QiY gw _ _ _ _ hg).mono (by intro e w' h; exact ⟨_,h.1,rfl,h.2⟩)) fun v W1 h3=>?_
  obtain ⟨rfl,q1,r1_1⟩:=h3
  have x1:GW base gw w W1:=GW.trans (GW.refl base gw w) (GW.of_but q1)
  refine sgN hK2 <| sgC fun K4 hK4=>sg 3 kj <| Qaa (.bool true) 18 rfl kj (Qaf 4 _ gw 1 111 _ (.bool true) _ r1_1 rfl kj kj kj) <| sg 1 kj <| sgN hK4 <| cond_false kj <| wp_skip ?_
  repeat (first | with_reducible refine goX1 ?_ | with_reducible refine goX2 ?_ | with_reducible refine goX3 ?_)
  have f5_1:=(ownN_but ho q1 (nb_typ ho hg (by decide)))
  exact (show bodyPost _ _ _ .normal _ _ from end0 rfl ⟨rfl,x1,_,r1_1,f5_1⟩)
theorem QmA (base gw:Nat) (u v:Value) (xs ys:List Int) (w:World) (hbw:base≤w.heap.size) (hg:w.heap[gw]? = some (.cells #[u,.bool false] 111)) (ho:OwnN .u8 5 base xs u w) (hxl:xs.length≤65536) (hyl:ys.length≤1000000) (hst:∀ W,ExtB gw w W→RdK .u8 W.heap.size ys v W) (h:xs.length+ys.length≤65536) :
    Calls Tryd.prog 87 #[.pointer (some ⟨gw,0,none⟩),v] w (fun e W=>e=.returned (.tuple #[])∧GW base gw w W∧∃ u',W.heap[gw]? = some (.cells (cat [#[u'],#[.bool false]]) 111)∧OwnN .u8 5 base (xs++ys) u' W):=by
  obtain ⟨a_u,c_u,rfl,-⟩:=id (OwnN.rd ho)
  obtain ⟨a_y,c_y,rfl,-⟩:=id (hst _ (ExtB.refl gw w))
  refine enter 29 [(0,.pointer (some ⟨gw,0,none⟩)),(1,.slice a_y ys.length c_y)] Tryd.func87 rfl rfl kj rfl <| sgC fun K2 hK2=>sg 4 kj <| Qaa (.slice a_u xs.length c_u) 8 rfl kj (Qaf 59 _ gw 0 111 _ (.slice a_u xs.length c_u) _ hg rfl kj kj kj) <| sg 3 kj <| Qaa (.int .i64 ((xs.length+ys.length:Nat):Int)) 12 rfl kj (Qag (u:=.int .i64 (IntKind.i64.wrap (((xs.length:Nat):Int)+((ys.length:Nat):Int)))) kj (congrArg (Value.int .i64) (i64n _ _ (by omega) (by omega)))) <| Qaa (.bool true) 13 rfl kj (Qag (u:=.bool (decide (((xs.length+ys.length:Nat):Int)≤65536))) kj (congrArg Value.bool (decide_eq_true (by omega)))) <| Qa0 (fun v W'=>v=.tuple #[]∧ExtB gw w W'∧W'.heap[gw]? = some (.cells (cat [#[.slice a_u xs.length c_u],#[.bool false]]) 111)) 85 #[.pointer (some ⟨gw,0,none⟩),.bool true] 14 rfl kj kj ((QiY gw _ _ _ _ hg).mono (by intro e w' h; exact ⟨_,h.1,rfl,h.2⟩)) fun v W1 h3=>?_
  obtain ⟨rfl,q1,r1_1⟩:=h3
  have x1:GW base gw w W1:=GW.trans (GW.refl base gw w) (GW.of_but q1)
  refine sgN hK2 <| sgC fun K4 hK4=>sg 3 kj <| Qaa (.bool false) 18 rfl kj (Qaf 4 _ gw 1 111 _ (.bool false) _ r1_1 rfl kj kj kj) <| sg 1 kj <| sgN hK4 <| cond_true kj <| Qad <| sg 4 kj <| Qaa (.slice a_u xs.length c_u) 24 rfl kj (Qaf 59 _ gw 0 111 _ (.slice a_u xs.length c_u) _ r1_1 rfl kj kj kj) ?_
  refine sg 1 kj ?_
  have f5_1:=(ownN_but ho q1 (nb_typ ho hg (by decide)))
  refine QfX base gw 1 (.tmp 24) (.tmp 25) 59 rfl kj kj (by decide) 26 rfl kj kj kj f5_1 (hst _ q1) (by omega) (qT hbw x1.size) r1_1 fun u2 W2 ho2 q2 r1_2=>?_
  have x2:GW base gw w W2:=GW.trans x1 q2
  have hnb2:u2.ownBlock≠some gw:=nb_typ ho2 r1_2 (by decide)
  obtain ⟨a2_,c2_,rfl,-⟩:=id (OwnN.rd ho2)
  refine sg 2 kj <| Qav gw _ (cat [#[.slice a2_ ((xs++ys).length) c2_],#[.bool false]]) 111 r1_2 rfl kj (QaX 59 _ _ gw 0 111 _ (.slice a2_ ((xs++ys).length) c2_) r1_2 rfl kj kj kj kj kj rfl) fun W3 p3 r1_3=>?_
  have x3:GW base gw w W3:=GW.putg x2 p3
  refine Qaj ?_
  repeat (first | with_reducible refine goX1 ?_ | with_reducible refine goX2 ?_ | with_reducible refine goX3 ?_)
  exact (show bodyPost _ _ _ .normal _ _ from end0 rfl ⟨rfl,x3,_,r1_3,(ho2.puts p3 hnb2)⟩)
theorem rawW (base gw:Nat) (s:Option (List Int)) (ys:List Int) (v:Value) (w:World) (hbw:base≤w.heap.size) (h:WSt base gw s w) (hyl:ys.length≤1000000) (hyb:Qax ys) (hst:∀ W,ExtB gw w W→RdK .u8 W.heap.size ys v W):Calls Tryd.prog 87 #[.pointer (some ⟨gw,0,none⟩),v] w (fun e W=>e=.returned (.tuple #[])∧GW base gw w W∧WSt base gw (rawS s ys) W):=by
  obtain ⟨u,xs,bad,h1,h2,h3,h4,rfl⟩:=h
  cases bad with
  | true =>
    refine (QmC base gw u v xs ys w hbw h1 h2 h3 hyl hst _ rfl).mono fun e W ⟨a,b,u',c,d⟩=>⟨a,b,u',xs,true,c,d,h3,h4,rfl⟩
  | false =>
    by_cases hf:xs.length+ys.length≤65536
    · refine (QmA base gw u v xs ys w hbw h1 h2 h3 hyl hst hf).mono fun e W ⟨a,b,u',c,d⟩=>⟨a,b,u',xs++ys,false,c,d,by rw [List.length_append]; omega,Qco h4 hyb,?_⟩
      show rawS (some xs) ys=some (xs++ys)
      exact if_pos hf
    · refine (QmB base gw u v xs ys w hbw h1 h2 h3 hyl hst (by omega)).mono fun e W ⟨a,b,u',c,d⟩=>⟨a,b,u',xs,true,c,d,h3,h4,?_⟩
      show rawS (some xs) ys=none
      exact if_neg hf
end Go.Proofs.YthfkppjajmjpnaaDoor.Wr
end
section
namespace Go.Proofs.YthfkppjajmjpnaaDoor.Wr
open Go Go.RowKit
open Rely Auto Own Sha
theorem shrZ (n : Int) (k:Nat) (hk:k≤4):n.fdiv (2^min (((8*k:Nat):Int)).toNat IntKind.i64.bits)=n.fdiv (2^(8*k)):=by
  rw [Int.toNat_natCast,Nat.min_eq_left (show 8*k≤IntKind.i64.bits by show 8*k≤64; omega)]
theorem QiT (base gw:Nat) (s:Option (List Int)) (n:Int) (size:Nat) (w:World) (hbw:base≤w.heap.size) (h:WSt base gw s w) (hsz:size≤4) (hn:0≤n):Calls Tryd.prog 84 #[.pointer (some ⟨gw,0,none⟩),.int .i64 n,.int .i64 ((size:Nat):Int)] w (fun e W=>e=.returned (.tuple #[])∧GW base gw w W∧WSt base gw (numS s n size) W):=by
 have hgw:=h.lt
 have hok:okN n size=(n.fdiv (2^(8*size))==0):=by unfold okN; simp [hn]
 refine enter 29 [(0,.pointer (some ⟨gw,0,none⟩)),(1,.int .i64 n),(2,.int .i64 ((size:Nat):Int))] Tryd.func84 rfl rfl kj rfl <| sgC fun K1 hK1=>sg 2 kj <| Qaa (.bool true) 8 rfl kj (Qag (u:=.bool (decide (n≥0))) kj (congrArg Value.bool (decide_eq_true (by omega)))) <| sg 3 kj <| Qaa (.int .i64 ((8*size:Nat):Int)) 12 rfl kj (Qag (u:=.int .i64 (IntKind.i64.wrap (8*((size:Nat):Int)))) kj (congrArg (Value.int .i64) (i64n _ _ (by omega) (by omega)))) <| Qaa (.int .i64 (n.fdiv (2^(8*size)))) 13 rfl kj (Qbk .shr _ _ _ _ .i64 .i64 _ _ _ rfl kj kj (QcO _ _ _ _ _ _ (by omega) (shrZ n size (by omega)))) <| Qaa (.bool (n.fdiv (2^(8*size))==0)) 14 rfl kj (Qag (u:=.bool (((n.fdiv (2^(8*size)))==0))) kj (congrArg Value.bool rfl)) <| sg 1 kj <| Qa0 (fun v W'=>v=.tuple #[]∧GW base gw w W'∧WSt base gw (Qb0 s (n.fdiv (2^(8*size))==0)) W') 85 #[.pointer (some ⟨gw,0,none⟩),.bool (n.fdiv (2^(8*size))==0)] 16 rfl kj kj ((Qhh base gw s (n.fdiv (2^(8*size))==0) _ h).mono (by rintro e w' ⟨rfl,h1,h2⟩; exact ⟨_,rfl,rfl,h1,h2⟩)) fun v2 W1 h2=>?_
 obtain ⟨rfl,q1,ws2⟩:=h2
 have x1:GW base gw w W1:=GW.trans (GW.refl base gw w) q1
 refine sgN hK1 <| wp_block <| Qay (fun (s1:Nat×Option (List Int))=>[(0,.pointer (some ⟨gw,0,none⟩)),(1,.int .i64 n),(2,.int .i64 ((s1.1:Nat):Int))]) (fun (s1:Nat×Option (List Int)) W=>(s1.1≤size)∧(WSt base gw s1.2 W)∧(numR n s1.1 s1.2=numR n size (Qb0 s (n.fdiv (2^(8*size))==0)))∧(GW base gw w W)) (fun (s1:Nat×Option (List Int))=>s1.1) (size,Qb0 s (n.fdiv (2^(8*size))==0)) ⟨kj,kj,kj,trivial⟩ ⟨(qR _),ws2,rfl,x1⟩ fun s1 X1 V1 hI1=>?_
 obtain ⟨j,sc⟩:=s1
 obtain ⟨hj,hws,hnum,xx1⟩:=hI1
 replace hj:j≤size:=hj
 replace hws:WSt base gw sc V1:=hws
 replace hnum:numR n j sc=numR n size (Qb0 s (n.fdiv (2^(8*size))==0)):=hnum
 replace xx1:GW base gw w V1:=xx1
 refine wp_seq_k fun K3 hK3=>sgB kj <| Qaq (t:=decide (((j:Nat):Int)>0)) kj (fun c5=>?_) (fun c5=>?_)
 ·skip
  obtain ⟨jp,hjp⟩:∃ jp,j=jp+1:=⟨j-1,by have:=of_decide_eq_true c5; omega⟩
  refine wp_skip <| hK3 _ _ <| wp_block <| sgC fun K6 hK6=>sg 1 kj <| Qaa (.int .i64 (((jp:Nat):Int))) 20 rfl kj (Qag (u:=.int .i64 (IntKind.i64.wrap (((j:Nat):Int)-1))) kj (congrArg (Value.int .i64) (by rw [show ((j:Nat):Int)-1=((jp:Nat):Int) by omega]; exact IntWalk.i64_in _ (by omega)))) ?_
  refine sg 1 kj <| sgN hK6 <| Qad <| sg 3 kj <| Qaa (.int .i64 ((8*jp:Nat):Int)) 24 rfl kj (Qag (u:=.int .i64 (IntKind.i64.wrap (8*(((jp:Nat):Int))))) kj (congrArg (Value.int .i64) (i64n _ _ (by omega) (by omega)))) <| Qaa (.int .i64 (n.fdiv (2^(8*jp)))) 25 rfl kj (Qbk .shr _ _ _ _ .i64 .i64 _ _ _ rfl kj kj (QcO _ _ _ _ _ _ (by omega) (shrZ n jp (by omega)))) <| Qaa (.int .u8 (byV n jp)) 26 rfl kj (Qag (u:=.int .u8 (IntKind.u8.wrap (n.fdiv (2^(8*jp))))) kj (congrArg (Value.int .u8) rfl)) <| Qa9 (ints .u8 ([(byV n jp)])) 5 1 27 rfl kj kj fun g7 W3 l7 e3 r7_3=>?_
  have x3:GW base gw w W3:=GW.ext xx1 e3
  have ws8:=WSt.ext hws e3
  have b7:=qT xx1.size l7
  refine Qa0 (fun v W'=>v=.tuple #[]∧GW base gw W3 W'∧WSt base gw (rawS sc [byV n jp]) W') 87 #[.pointer (some ⟨gw,0,none⟩),.slice (some ⟨g7,0,none⟩) 1 1] 28 rfl kj kj ((rawW base gw sc [byV n jp] _ _ (qT hbw x3.size) ws8 (by show 1≤1000000; decide) (Qe1 n jp) (fun W e=>QaJ (xs:=[byV n jp]) (n:=1) rfl (ExtB.row e r7_3 (Ne.symm (Nat.ne_of_lt (qL hgw b7)))) (Qa5 (ExtB.row e r7_3 (Ne.symm (Nat.ne_of_lt (qL hgw b7))))) (by decide))).mono (by rintro e w' ⟨rfl,h1,h2⟩; exact ⟨_,rfl,rfl,h1,h2⟩)) fun v9 W4 h9=>?_
  obtain ⟨rfl,q4,ws9⟩:=h9
  have x4:GW base gw w W4:=GW.trans x3 q4
  refine Qaj ?_
  repeat (first | with_reducible refine goX1 ?_ | with_reducible refine goX2 ?_ | with_reducible refine goX3 ?_)
  exact Qap (jp,rawS sc [byV n jp]) ⟨kj,kj,kj,trivial⟩ ⟨(by omega),ws9,(by have h7:=hnum; rw [hjp] at h7; exact h7),x4⟩ (by omega)
 ·skip
  have hj0:j=0:=by have:=of_decide_eq_false c5; omega
  refine wp_exit ?_
  repeat (first | with_reducible refine goX1 ?_ | with_reducible refine goX2 ?_ | with_reducible refine goX3 ?_)
  exact (show bodyPost _ _ _ .normal _ _ from end0 rfl ⟨rfl,xx1,by have h9:sc=numR n size (Qb0 s (n.fdiv (2^(8*size))==0)):=(by have h7:=hnum; rw [hj0] at h7; exact h7); rw [h9] at hws; have h8:okN n size=(n.fdiv (2^(8*size))==0):=hok; unfold numS; rw [h8]; exact hws⟩)
theorem QiU (base gw:Nat) (s:Option (List Int)) (n:Int) (size:Nat) (w:World) (hbw:base≤w.heap.size) (h:WSt base gw s w) (hsz:size≤4) (hn:n<0):Calls Tryd.prog 84 #[.pointer (some ⟨gw,0,none⟩),.int .i64 n,.int .i64 ((size:Nat):Int)] w (fun e W=>e=.returned (.tuple #[])∧GW base gw w W∧WSt base gw (numS s n size) W):=by
 have hgw:=h.lt
 have hok:okN n size=false:=by unfold okN; simp [show ¬ 0≤n by omega]
 refine enter 29 [(0,.pointer (some ⟨gw,0,none⟩)),(1,.int .i64 n),(2,.int .i64 ((size:Nat):Int))] Tryd.func84 rfl rfl kj rfl <| sgC fun K1 hK1=>sg 2 kj <| Qaa (.bool false) 8 rfl kj (Qag (u:=.bool (decide (n≥0))) kj (congrArg Value.bool (decide_eq_false (by omega)))) <| sg 7 kj <| Qa0 (fun v W'=>v=.tuple #[]∧GW base gw w W'∧WSt base gw (Qb0 s false) W') 85 #[.pointer (some ⟨gw,0,none⟩),.bool false] 16 rfl kj kj ((Qhh base gw s false _ h).mono (by rintro e w' ⟨rfl,h1,h2⟩; exact ⟨_,rfl,rfl,h1,h2⟩)) fun v2 W1 h2=>?_
 obtain ⟨rfl,q1,ws2⟩:=h2
 have x1:GW base gw w W1:=GW.trans (GW.refl base gw w) q1
 refine sgN hK1 <| wp_block <| Qay (fun (s1:Nat×Option (List Int))=>[(0,.pointer (some ⟨gw,0,none⟩)),(1,.int .i64 n),(2,.int .i64 ((s1.1:Nat):Int))]) (fun (s1:Nat×Option (List Int)) W=>(s1.1≤size)∧(WSt base gw s1.2 W)∧(numR n s1.1 s1.2=numR n size (Qb0 s false))∧(GW base gw w W)) (fun (s1:Nat×Option (List Int))=>s1.1) (size,Qb0 s false) ⟨kj,kj,kj,trivial⟩ ⟨(qR _),ws2,rfl,x1⟩ fun s1 X1 V1 hI1=>?_
 obtain ⟨j,sc⟩:=s1
 obtain ⟨hj,hws,hnum,xx1⟩:=hI1
 replace hj:j≤size:=hj
 replace hws:WSt base gw sc V1:=hws
 replace hnum:numR n j sc=numR n size (Qb0 s false):=hnum
 replace xx1:GW base gw w V1:=xx1
 refine wp_seq_k fun K3 hK3=>sgB kj <| Qaq (t:=decide (((j:Nat):Int)>0)) kj (fun c5=>?_) (fun c5=>?_)
 ·skip
  obtain ⟨jp,hjp⟩:∃ jp,j=jp+1:=⟨j-1,by have:=of_decide_eq_true c5; omega⟩
  refine wp_skip <| hK3 _ _ <| wp_block <| sgC fun K6 hK6=>sg 1 kj <| Qaa (.int .i64 (((jp:Nat):Int))) 20 rfl kj (Qag (u:=.int .i64 (IntKind.i64.wrap (((j:Nat):Int)-1))) kj (congrArg (Value.int .i64) (by rw [show ((j:Nat):Int)-1=((jp:Nat):Int) by omega]; exact IntWalk.i64_in _ (by omega)))) ?_
  refine sg 1 kj <| sgN hK6 <| Qad <| sg 3 kj <| Qaa (.int .i64 ((8*jp:Nat):Int)) 24 rfl kj (Qag (u:=.int .i64 (IntKind.i64.wrap (8*(((jp:Nat):Int))))) kj (congrArg (Value.int .i64) (i64n _ _ (by omega) (by omega)))) <| Qaa (.int .i64 (n.fdiv (2^(8*jp)))) 25 rfl kj (Qbk .shr _ _ _ _ .i64 .i64 _ _ _ rfl kj kj (QcO _ _ _ _ _ _ (by omega) (shrZ n jp (by omega)))) <| Qaa (.int .u8 (byV n jp)) 26 rfl kj (Qag (u:=.int .u8 (IntKind.u8.wrap (n.fdiv (2^(8*jp))))) kj (congrArg (Value.int .u8) rfl)) <| Qa9 (ints .u8 ([(byV n jp)])) 5 1 27 rfl kj kj fun g7 W3 l7 e3 r7_3=>?_
  have x3:GW base gw w W3:=GW.ext xx1 e3
  have ws8:=WSt.ext hws e3
  have b7:=qT xx1.size l7
  refine Qa0 (fun v W'=>v=.tuple #[]∧GW base gw W3 W'∧WSt base gw (rawS sc [byV n jp]) W') 87 #[.pointer (some ⟨gw,0,none⟩),.slice (some ⟨g7,0,none⟩) 1 1] 28 rfl kj kj ((rawW base gw sc [byV n jp] _ _ (qT hbw x3.size) ws8 (by show 1≤1000000; decide) (Qe1 n jp) (fun W e=>QaJ (xs:=[byV n jp]) (n:=1) rfl (ExtB.row e r7_3 (Ne.symm (Nat.ne_of_lt (qL hgw b7)))) (Qa5 (ExtB.row e r7_3 (Ne.symm (Nat.ne_of_lt (qL hgw b7))))) (by decide))).mono (by rintro e w' ⟨rfl,h1,h2⟩; exact ⟨_,rfl,rfl,h1,h2⟩)) fun v9 W4 h9=>?_
  obtain ⟨rfl,q4,ws9⟩:=h9
  have x4:GW base gw w W4:=GW.trans x3 q4
  refine Qaj ?_
  repeat (first | with_reducible refine goX1 ?_ | with_reducible refine goX2 ?_ | with_reducible refine goX3 ?_)
  exact Qap (jp,rawS sc [byV n jp]) ⟨kj,kj,kj,trivial⟩ ⟨(by omega),ws9,(by have h7:=hnum; rw [hjp] at h7; exact h7),x4⟩ (by omega)
 ·skip
  have hj0:j=0:=by have:=of_decide_eq_false c5; omega
  refine wp_exit ?_
  repeat (first | with_reducible refine goX1 ?_ | with_reducible refine goX2 ?_ | with_reducible refine goX3 ?_)
  exact (show bodyPost _ _ _ .normal _ _ from end0 rfl ⟨rfl,xx1,by have h9:sc=numR n size (Qb0 s false):=(by have h7:=hnum; rw [hj0] at h7; exact h7); rw [h9] at hws; have h8:okN n size=false:=hok; unfold numS; rw [h8]; exact hws⟩)
theorem Qd5 (base gw:Nat) (s:Option (List Int)) (n:Int) (size:Nat) (w:World) (hbw:base≤w.heap.size) (h:WSt base gw s w) (hsz:size≤4):Calls Tryd.prog 84 #[.pointer (some ⟨gw,0,none⟩),.int .i64 n,.int .i64 ((size:Nat):Int)] w (fun e W=>e=.returned (.tuple #[])∧GW base gw w W∧WSt base gw (numS s n size) W):=by
  by_cases hn:0≤n
  · exact QiT base gw s n size w hbw h hsz hn
  · exact QiU base gw s n size w hbw h hsz (by omega)
theorem QmH (base gw:Nat) (s:Option (List Int)) (n:Int) (w:World) (hbw:base≤w.heap.size) (h:WSt base gw s w):Calls Tryd.prog 90 #[.pointer (some ⟨gw,0,none⟩),.int .i64 n] w (fun e W=>e=.returned (.tuple #[])∧GW base gw w W∧WSt base gw (Qcm s n) W):=by
  have hgw:=h.lt
  refine enter 11 [(0,.pointer (some ⟨gw,0,none⟩)),(1,.int .i64 n)] Tryd.func90 rfl rfl kj rfl <| sgC fun K1 hK1=>sg 3 kj <| Qa0 (fun v W'=>v=.tuple #[]∧GW base gw w W'∧WSt base gw (Qb0 s (decide (n<32))) W') 85 #[.pointer (some ⟨gw,0,none⟩),.bool (decide (n<32))] 7 rfl kj kj ((Qhh base gw s (decide (n<32)) _ h).mono (by rintro e w' ⟨rfl,h1,h2⟩; exact ⟨_,rfl,rfl,h1,h2⟩)) fun v2 W1 h2=>?_
  obtain ⟨rfl,q1,ws2⟩:=h2
  have x1:GW base gw w W1:=GW.trans (GW.refl base gw w) q1
  refine sgN hK1 <| Qad <| sg 2 kj <| Qa0 (fun v W'=>v=.tuple #[]∧GW base gw W1 W'∧WSt base gw (numS (Qb0 s (decide (n<32))) n 1) W') 84 #[.pointer (some ⟨gw,0,none⟩),.int .i64 n,.int .i64 1] 10 rfl kj kj ((Qd5 base gw _ n 1 _ (qT hbw x1.size) ws2 (by decide)).mono (by rintro e w' ⟨rfl,h1,h2⟩; exact ⟨_,rfl,rfl,h1,h2⟩)) fun v3 W2 h3=>?_
  obtain ⟨rfl,q2,ws3⟩:=h3
  have x2:GW base gw w W2:=GW.trans x1 q2
  refine Qaj ?_
  repeat (first | with_reducible refine goX1 ?_ | with_reducible refine goX2 ?_ | with_reducible refine goX3 ?_)
  exact (show bodyPost _ _ _ .normal _ _ from end0 rfl ⟨rfl,x2,ws3⟩)
end Go.Proofs.YthfkppjajmjpnaaDoor.Wr
end
section
namespace Go.Proofs.YthfkppjajmjpnaaDoor.Wr
open Go Go.RowKit
open Rely Auto Own Sha
theorem GW.back {base gw:Nat} {u w W:World} (h:Ext u w) (q:GW base gw w W) (hb:u.heap.size≤base) (hg:u.heap.size≤gw):Ext u W :=
  ⟨q.os.trans h.os,q.tape.trans h.tape,q.output.trans h.output,qT h.size q.size,fun k hk=>(q.block k (qL hk h.size) (by omega) (.inl (by omega))).trans (h.block k hk)⟩
def PutR (base : Nat):Option (List Int)→Value→World→Prop
  | none=>fun v W=>v=.tuple #[.slice none 0 0,.iface 68 (.int .i64 3)]
  | some xs=>fun v W=>∃ u,v=.tuple #[u,.nilIface]∧OwnN .u8 5 base xs u W
end Go.Proofs.YthfkppjajmjpnaaDoor.Wr
end
section
namespace Go.Proofs.YthfkppjajmjpnaaDoor.Wr
open Go Go.RowKit
open Rely Auto Own Sha
end Go.Proofs.YthfkppjajmjpnaaDoor.Wr
end
section
namespace Go.Proofs.YthfkppjajmjpnaaDoor.Wr
open Go Go.RowKit
open Rely Auto Own Sha
def beV (n : Int):Nat→List Int
  | 0=>[]
  | k+1=>byV n k::beV n k
theorem Qi0 (n : Int):∀ k,(beV n k).length=k
  | 0=>rfl
  | k+1=>by unfold beV; rw [List.length_cons,Qi0 n k]
theorem Qdx (n : Int):∀ k,Qax (beV n k)
  | 0=>fun x hx=>by cases hx
  | k+1=>fun x hx=>by
    unfold beV at hx
    rcases List.mem_cons.1 hx with h | h
    · exact Qe1 n k x (by simp [h])
    · exact Qdx n k x h
def inB (n last:Int):Bool:=decide (0≤n)&&decide (n≤last)
theorem Qii {n last:Int} (h:inB n last=true):0≤n∧n≤last:=by
  unfold inB at h
  simpa using h
def fitV (ys : List Int):Option (List Int):=if ys.length≤65536 then some ys else none
end Go.Proofs.YthfkppjajmjpnaaDoor.Wr
end
section
namespace Go.Proofs.YthfkppjajmjpnaaDoor.Wr
open Go Go.RowKit
open Rely Auto Own Sha
structure OncU (base n : Nat) (ys : List Int) (W W' : World) : Prop where
  os:W'.os=W.os
  tape:W'.tape=W.tape
  output:W'.output=W.output
  size:W.heap.size≤W'.heap.size
  block:∀ g,g<W.heap.size→W'.heap[g]? = W.heap[g]?∨(base≤g∧∃ cs cs',W.heap[g]? = some (.cells cs 5)∧W'.heap[g]? = some (.cells cs' 5)∧cs'.size=cs.size∧∀ i,cs'[i]? = cs[i]?∨(n≤i∧cs'[i]? = some (.int .u8 (nth ys (i-n)))))
theorem OncU.refl (base n:Nat) (ys:List Int) (W:World):OncU base n ys W W:=⟨rfl,rfl,rfl,qR _,fun _ _=>.inl rfl⟩
theorem OncU.trans {base n:Nat} {ys:List Int} {a b c:World} (h:OncU base n ys a b) (k:OncU base n ys b c):OncU base n ys a c:=by
  refine ⟨k.os.trans h.os,k.tape.trans h.tape,k.output.trans h.output,qT h.size k.size,fun g hg=>?_⟩
  rcases k.block g (qL hg h.size) with h2 | ⟨hb,cs,cs',r1,r2,r3,r4⟩
  · rw [h2]; exact h.block g hg
  · rcases h.block g hg with h1 | ⟨_,ds,ds',s1,s2,s3,s4⟩
    · exact .inr ⟨hb,cs,cs',h1▸r1,r2,r3,r4⟩
    · rw [s2] at r1
      simp only [Option.some.injEq,Obj.cells.injEq,and_true,true_and] at r1
      obtain rfl:=r1
      refine .inr ⟨hb,ds,cs',s1,r2,r3.trans s3,fun i=>?_⟩
      rcases r4 i with r | ⟨r,r'⟩
      · rw [r]; exact s4 i
      · exact .inr ⟨r,r'⟩
theorem OncU.ext {base n:Nat} {ys:List Int} {a b:World} (e:Ext a b):OncU base n ys a b:=⟨e.os,e.tape,e.output,e.size,fun g hg=>.inl (e.block g hg)⟩
theorem OncU.low {n : Nat} {ys:List Int} {w0 W:World} (h:OncU w0.heap.size n ys w0 W):Ext w0 W :=
  ⟨h.os,h.tape,h.output,h.size,fun g hg=>by
    rcases h.block g hg with h | ⟨hb,_⟩
    · exact h
    · omega⟩
theorem byV0 (n : Int):IntKind.u8.wrap n=byV n 0:=by unfold byV; rw [Nat.mul_zero,Int.pow_zero,Int.fdiv_one]
end Go.Proofs.YthfkppjajmjpnaaDoor.Wr
end
section
namespace Go.Proofs.YthfkppjajmjpnaaDoor.Wk
open Go Go.RowKit
open Rely Auto Own Sha
variable {P : Program} {ops : Array Oper} {Q : Exit → Act → World → Prop}
def allR (P : Program) (ops:Array Oper) (Q:Exit→Act→World→Prop) (Rd:World→Prop):Nat→Array Bool→Act→World→Prop
  | 0,listed,a,w=>Region.ready .any ops listed=[]∧Q .normal a w
  | fuel+1,listed,a,w=>(Region.ready .any ops listed=[]→Q .normal a w)∧∀ i∈Region.ready .any ops listed,wpOp P ops Q i (fun a' w'=>Rd w'∧allR P ops Q Rd fuel (listed.setIfInBounds i true) a' w') a w
theorem Qfz {Rd : World→Prop}:∀ (fuel:Nat) (listed:Array Bool) (a:Act) (w:World),allR P ops Q Rd fuel listed a w→wpAny P .any ops Q fuel listed a w
  | 0,_,_,_,h=>h
  | _+1,_,_,_,h=>⟨h.1,fun i hi=>wpOp_mono (fun a w h=>Qfz _ _ a w h.2) (h.2 i hi)⟩
def QbS (P : Program) (ops:Array Oper) (Rd:World→Prop) (o:Oper) (v:Value) (a:Act):Prop :=
  (Region.wanted o (yielded ops a.tmps)=true∧∀ w,Rd w→(execOp a.eval o).run P w=.ok (.value v) w)∨(Region.wanted o (yielded ops a.tmps)=false∧v=undef)
theorem QbS.wpOp {Rd : World→Prop} {i:Nat} {o:Oper} {v:Value} {a:Act} (hi:ops[i]? = some o) (hy:QbS P ops Rd o v a) {K:Act→World→Prop} {w:World} (hw:Rd w) (h:K (a.put o.dst v) w):wpOp P ops Q i K a w:=by
  unfold Go.wpOp
  simp only [hi]
  rcases hy with ⟨hw1,hv⟩ | ⟨hw1,rfl⟩
  · simp only [hw1,if_true,Oper.wp,hv w hw,Oper.upon]; exact .inl h
  · simp only [hw1,Bool.false_eq_true,if_false]; exact h
theorem QbS.same {Rd : World→Prop} {o:Oper} {v:Value} {a a':Act} (hy:QbS P ops Rd o v a) (he:execOp a'.eval o=execOp a.eval o) (hw:Region.wanted o (yielded ops a'.tmps)=Region.wanted o (yielded ops a.tmps)):QbS P ops Rd o v a':=by
  unfold QbS at *
  rw [he,hw]
  exact hy
theorem QkK {Rd : World→Prop} {j:Nat} {oi oj:Oper} {v:Value} (hj:ops[j]? = some oj) (hap:oi.apart ops oj=true) (hsi:∀ cs b,oi.op≠.select cs b) (hsj:∀ cs b,oj.op≠.select cs b)
    (hQ:∀ c a w,Q (.panic c) (a.put oi.dst v) w→Q (.panic c) a w) {K:Act→World→Prop} {a:Act} {w:World} (hy:QbS P ops Rd oi v a) (h:wpOp P ops Q j K (a.put oi.dst v) w) :
    wpOp P ops Q j (fun a' w'=>QbS P ops Rd oi v a'∧K (a'.put oi.dst v) w') a w:=by
  obtain ⟨h1,h2,h3⟩:=Oper.apart_spec hap
  have keep:∀ (a:Act),QbS P ops Rd oi v a→∀ u,QbS P ops Rd oi v (a.put oj.dst u):=fun a hy u=>hy.same (execOp_put oi hsi a oj.dst u h3) (wanted_put oi a oj.dst u h3)
  have keepD:∀ d,QbS P ops Rd oi v { a with defers:=d::a.defers }:=fun d=>hy.same rfl rfl
  unfold wpOp at *
  simp only [hj] at *
  rw [wanted_put oj a oi.dst v h1] at h
  split
  · rename_i hw
    simp only [hw,if_true] at h
    rcases h with h | ⟨hasks,hlets⟩
    case inr=>exact .inr ⟨by unfold Oper.asks at *; rw [execOp_put oj hsj a oi.dst v h1] at hasks; exact hasks,hlets⟩
    refine .inl ?_
    unfold Oper.wp at *
    rw [execOp_put oj hsj a oi.dst v h1] at h
    generalize (execOp a.eval oj).run P w=r at *
    cases r with
    | ok n w' =>
      cases n <;> simp only [Oper.upon] at h ⊢
      case value u=>exact ⟨keep a hy u,by rw [←Act.put_comm a v u h2]; exact h⟩
      case skip=>exact ⟨keep a hy _,by rw [←Act.put_comm a v undef h2]; exact h⟩
      case defer d =>
        refine ⟨keep _ (keepD d) _,?_⟩
        rw [←Act.put_comm _ v undef h2,←Act.put_defers]
        exact h
      case enter f args =>
        refine Calls.mono h fun e w'' he=>?_
        cases e with
        | returned u=>exact ⟨keep a hy u,by rw [←Act.put_comm a v u h2]; exact he⟩
        | panicked c=>exact hQ _ _ _ he
        | outgrown=>exact he
      case row row args=>exact Rows.mono h fun u w'' he=>⟨keep a hy u,by rw [←Act.put_comm a v u h2]; exact he⟩
    | halt x w' =>
      cases x <;> simp only [Oper.upon] at h ⊢
      case panic u=>exact hQ _ _ _ h
  · rename_i hw
    simp only [hw] at h
    exact ⟨keep a hy _,by rw [←Act.put_comm a v undef h2]; exact h⟩
theorem QeS {Rd : World→Prop} {i:Nat} {oi:Oper} {v:Value} (hi:ops[i]? = some oi) (hsel:∀ (j:Nat) (o:Oper) cs b,ops[j]? = some o→o.op≠.select cs b) (hQ:∀ c a w,Q (.panic c) (a.put oi.dst v) w→Q (.panic c) a w) :
    ∀ (fuel:Nat) (listed:Array Bool) (a:Act) (w:World),Rd w →
      (∀ j oj,ops[j]? = some oj→j≠i→listed.getD j true=false→(∀ e∈oj.after,Region.binds .any e=true→e.on≠i)→oi.apart ops oj=true) →
      i∈Region.ready .any ops listed→QbS P ops Rd oi v a→allR P ops Q Rd fuel (listed.setIfInBounds i true) (a.put oi.dst v) w→allR P ops Q Rd (fuel+1) listed a w:=by
  intro fuel
  induction fuel with
  | zero =>
    intro listed a w hw _ hr hy H
    refine ⟨fun h=>(by rw [h] at hr; cases hr),fun j hj=>?_⟩
    by_cases hji:j=i
    · subst hji; exact hy.wpOp hi hw ⟨hw,H⟩
    · have:=ready_mono hj hji
      rw [H.1] at this
      cases this
  | succ fuel ih =>
    intro listed a w hw hfree hr hy H
    refine ⟨fun h=>(by rw [h] at hr; cases hr),fun j hj=>?_⟩
    by_cases hji:j=i
    · subst hji; exact hy.wpOp hi hw ⟨hw,H⟩
    · have h1:=H.2 j (ready_mono hj hji)
      obtain ⟨hjun,oj,hoj,hall⟩:=mem_ready.1 hj
      have hnot:∀ e∈oj.after,Region.binds .any e=true→e.on≠i:=fun e he hb heq=>by
        have h1:=hall e he hb
        have h0:=(mem_ready.1 hr).1
        rw [heq] at h1
        rcases Nat.lt_or_ge i listed.size with h' | h'
        · simp [h'] at h0 h1; rw [h0] at h1; cases h1
        · simp [Array.getElem?_eq_none h'] at h1
      have h2:=QkK hoj (hfree j oj hoj hji hjun hnot) (fun cs b=>hsel i oi cs b hi) (fun cs b=>hsel j oj cs b hoj) hQ hy h1
      have hfree':∀ k ok,ops[k]? = some ok→k≠i→(listed.setIfInBounds j true).getD k true=false→(∀ e∈ok.after,Region.binds .any e=true→e.on≠i)→oi.apart ops ok=true:=fun k ok hk hki hun hno=>by
        refine hfree k ok hk hki ?_ hno
        by_cases hjk:j=k
        · subst hjk; exact hjun
        · rw [getD_set_ne true hjk] at hun; exact hun
      refine wpOp_mono (fun a' w' h3=>⟨h3.2.1,ih (listed.setIfInBounds j true) a' w' h3.2.1 hfree' (ready_mono hr (Ne.symm hji)) h3.1 ?_⟩) h2
      rw [Array.setIfInBounds_comm _ _ hji]
      exact h3.2.2
structure WB (P : Program) (ops : Array Oper) (Q : Exit → Act → World → Prop) (Rd : World → Prop) (fuel : Nat) (listed : Array Bool) (a : Act) (w : World) : Prop where
  out:Rd w→allR P ops Q Rd fuel listed a w
structure WO (P : Program) (ops : Array Oper) (Q : Exit → Act → World → Prop) (Rd : World → Prop) (k fuel : Nat) (listed : Array Bool) (a : Act) (w : World) : Prop where
  out:wpOp P ops Q k (fun a' w'=>Rd w'∧allR P ops Q Rd fuel (listed.setIfInBounds k true) a' w') a w
variable {o : Oper} {N : Nat} {L : Env} {w V : World} {ds : List Deferred} {fuel : Nat} {listed : Array Bool} {k : Nat} {a : Act} {Rd : World → Prop}
theorem Qbe {id : Nat} {l:List Oper} (hm:P.follows .mixedOrders=true) (h:∀ W,Ext w W→WB P l.toArray Q (Ext W) l.length (Array.replicate l.length false) (Qa3 ds N L) W):(Code.region id l.toArray true).wp P Q (Qa3 ds N L) w:=by
  refine wp_region_any hm ?_
  have:=Qfz _ _ _ _ ((h w.drew (Qaz w)).out (Ext.refl _))
  simpa using this
theorem QbO {id : Nat} {l:List Oper} (Rd:World→Prop) (hm:P.follows .mixedOrders=true) (h:∀ W,Ext w W→Rd W∧WB P l.toArray Q Rd l.length (Array.replicate l.length false) (Qa3 ds N L) W):(Code.region id l.toArray true).wp P Q (Qa3 ds N L) w:=by
  refine wp_region_any hm ?_
  obtain ⟨h1,h2⟩:=h w.drew (Qaz w)
  have:=Qfz _ _ _ _ (h2.out h1)
  simpa using this
theorem Qas (k : Nat) (v:Value) (d:Nat) (ho:ops[k]? = some o) (hd:o.dst=some d) (hg:Qby ops o N L=some true) (hc:(Region.noSelect ops&&Region.free .any ops listed k&&(Region.ready .any ops listed).contains k)=true)
    (hQ:∀ c a w,Q (.panic c) (a.put o.dst v) w→Q (.panic c) a w) (h:∀ W,Rd W→(execOp (Rely.look (envN N L)) o).run P W=.ok (.value v) W) (kk:WB P ops Q Rd fuel (listed.setIfInBounds k true) (Qa3 ds N ((d,v)::L)) w):WB P ops Q Rd (fuel+1) listed (Qa3 ds N L) w:=by
  simp only [Bool.and_eq_true] at hc
  refine ⟨fun hw=>QeS ho (Region.noSelect_spec hc.1.1) hQ fuel listed _ w hw (Region.free_spec ho hc.1.2) (by simpa using hc.2) (.inl ⟨QbD hg,fun W hW=>?_⟩) ?_⟩
  · rw [Qbj]; exact h W hW
  · rw [hd,Qbd]; exact kk.out hw
theorem QaT (k : Nat) (d:Nat) (ho:ops[k]? = some o) (hd:o.dst=some d) (hg:Qby ops o N L=some false) (hc:(Region.noSelect ops&&Region.free .any ops listed k&&(Region.ready .any ops listed).contains k)=true)
    (hQ:∀ c a w,Q (.panic c) (a.put o.dst undef) w→Q (.panic c) a w) (kk:WB P ops Q Rd fuel (listed.setIfInBounds k true) (Qa3 ds N ((d,undef)::L)) w):WB P ops Q Rd (fuel+1) listed (Qa3 ds N L) w:=by
  simp only [Bool.and_eq_true] at hc
  refine ⟨fun hw=>QeS ho (Region.noSelect_spec hc.1.1) hQ fuel listed _ w hw (Region.free_spec ho hc.1.2) (by simpa using hc.2) (.inr ⟨QbD hg,rfl⟩) ?_⟩
  rw [hd,Qbd]; exact kk.out hw
theorem Qbt (k : Nat) (hr:Region.ready .any ops listed=[k]) (h:WO P ops Q Rd k fuel listed a w):WB P ops Q Rd (fuel+1) listed a w :=
  ⟨fun _=>⟨fun h0=>(by rw [hr] at h0; cases h0),fun i hi=>by
    rw [hr] at hi; obtain rfl:i=k:=by simpa using hi
    exact h.out⟩⟩
theorem QbV (ho : ops[k]? = some o) (R:Value→World→Prop) (f:FuncId) (args:Array Value) (d:Nat) (hd:o.dst=some d) (hg:Qby ops o N L=some true)
    (h:(execOp (Rely.look (envN N L)) o).run P w=.ok (.enter f args) w) (hc:Calls P f args w fun e w'=>∃ v,e=.returned v∧R v w') (hR:∀ v W,R v W→Rd W) (kk:∀ (v:Value) (W:World),R v W→WB P ops Q Rd fuel (listed.setIfInBounds k true) (Qa3 ds N ((d,v)::L)) W):WO P ops Q Rd k fuel listed (Qa3 ds N L) w:=by
  refine ⟨?_⟩
  unfold wpOp
  rw [ho]
  simp only [QbD hg,if_true]
  refine .inl ?_
  unfold Oper.wp
  rw [Qbj,h]
  refine hc.mono ?_
  rintro e w' ⟨v,rfl,hw⟩
  show _∧allR _ _ _ _ _ _ _ _
  rw [hd,Qbd]
  exact ⟨hR v w' hw,(kk v w' hw).out (hR v w' hw)⟩
theorem Qj0 (ho : ops[k]? = some o) (R:Value→World→Prop) (d:Nat) (hd:o.dst=some d) (hg:Qby ops o N L=some true) (h:∃ v W,(execOp (Rely.look (envN N L)) o).run P w=.ok (.value v) W∧R v W) (hR:∀ v W,R v W→Rd W)
    (kk:∀ (v:Value) (W:World),R v W→WB P ops Q Rd fuel (listed.setIfInBounds k true) (Qa3 ds N ((d,v)::L)) W):WO P ops Q Rd k fuel listed (Qa3 ds N L) w:=by
  obtain ⟨v,W,h1,h2⟩:=h
  refine ⟨?_⟩
  unfold wpOp
  rw [ho]
  simp only [QbD hg,if_true]
  refine .inl ?_
  unfold Oper.wp
  rw [Qbj,h1]
  show _∧allR _ _ _ _ _ _ _ _
  rw [hd,Qbd]
  exact ⟨hR v W h2,(kk v W h2).out (hR v W h2)⟩
def Ef (P : Program) (o:Oper) (ρ:Operand→Value) (W:World) (φ:Value→World→Prop):Prop :=
  (∃ v W',(execOp ρ o).run P W=.ok (.value v) W'∧Ext W W'∧φ v W')∨∃ f args,(execOp ρ o).run P W=.ok (.enter f args) W∧Calls P f args W fun e W'=>∃ v,e=.returned v∧Ext W W'∧φ v W'
theorem Ef.put {φ : Value→World→Prop} {d:Nat} {v:Value} (h:Ef P o a.eval w φ) (hs:∀ cs b,o.op≠.select cs b) (hd:∀ e,some d=some e→e∉o.looksAt ops):Ef P o (a.put (some d) v).eval w φ:=by
  unfold Ef
  rw [execOp_put (ops:=ops) o hs a (some d) v hd]
  exact h
theorem Qcb (hr : Region.ready .any ops listed=[]) (h:Q .normal (Qa3 ds N L) w):WB P ops Q Rd fuel listed (Qa3 ds N L) w :=
  ⟨fun _=>by cases fuel with
    | zero=>exact ⟨hr,h⟩
    | succ n=>exact ⟨fun _=>h,by rw [hr]; simp⟩⟩
end Go.Proofs.YthfkppjajmjpnaaDoor.Wk
end
section
namespace Go.Proofs.YthfkppjajmjpnaaDoor.Wr
open Go Go.RowKit
open Rely Auto Own Sha
theorem ExtB.tr {g : Nat} {a b c:World} (h:ExtB g a b) (k:ExtB g b c):ExtB g a c:=⟨k.1.trans h.1,k.2.1.trans h.2.1,k.2.2.1.trans h.2.2.1,qT h.2.2.2.1 k.2.2.2.1,fun i hi hn=>(k.2.2.2.2 i (qL hi h.2.2.2.1) hn).trans (h.2.2.2.2 i hi hn)⟩
end Go.Proofs.YthfkppjajmjpnaaDoor.Wr
end
section
namespace Go.Proofs.YthfkppjajmjpnaaDoor.Wr
open Go Go.RowKit
open Rely Auto Own Sha
theorem or_byte (a b c:Nat) (hb:b<256) (hc:a*256+b=c) (hs:c<4611686018427387904):bits .or .i64 ((a*256:Nat):Int) ((b:Nat):Int)=((c:Nat):Int):=by
  have h:bits .or .i64 ((a*256:Nat):Int) ((b:Nat):Int)=IntKind.i64.wrap (((BitVec.ofInt 64 ((a*256:Nat):Int))|||(BitVec.ofInt 64 ((b:Nat):Int))).toNat:Int):=rfl
  rw [h,BitVec.toNat_or,BitVec.toNat_ofInt,BitVec.toNat_ofInt]
  have e1:(((a*256:Nat):Int)%((2^64:Nat):Int)).toNat=2^8*a:=by omega
  have e2:(((b:Nat):Int)%((2^64:Nat):Int)).toNat=b:=by omega
  rw [e1,e2,←Nat.two_pow_add_eq_or_of_lt (i:=8) (by omega) a,show 2^8*a+b=c by omega]
  exact IntWalk.i64_in _ (by omega)
theorem byteN {ys : List Int} (hb:Qax ys) (i:Nat):IntKind.i64.wrap (nth ys i)=(((nth ys i).toNat:Nat):Int)∧(nth ys i).toNat<256:=by
  have h:0≤nth ys i∧nth ys i≤255:=by
    unfold nth
    rw [List.getD_eq_getElem?_getD]
    cases e:ys[i]? with
    | none=>exact ⟨Int.le_refl _,by decide⟩
    | some x=>exact hb x (List.mem_of_getElem? e)
  exact ⟨(IntWalk.i64_in _ (by omega)).trans (by omega),by omega⟩
end Go.Proofs.YthfkppjajmjpnaaDoor.Wr
end
section
namespace Go.Proofs.YthfkppjajmjpnaaDoor.Wr
open Go Go.RowKit
open Rely Auto Own Sha
open Wk
end Go.Proofs.YthfkppjajmjpnaaDoor.Wr
end
section
namespace Go.Proofs.YthfkppjajmjpnaaDoor.Wr
open Go Go.RowKit
open Rely Auto Own Sha
end Go.Proofs.YthfkppjajmjpnaaDoor.Wr
end
section
namespace Go.Proofs.YthfkppjajmjpnaaDoor.Wr
open Go Go.RowKit
open Rely Auto Own Sha
end Go.Proofs.YthfkppjajmjpnaaDoor.Wr
end
section
namespace Go.Proofs.YthfkppjajmjpnaaDoor.Wr
open Go Go.RowKit
open Rely Auto Own Sha
end Go.Proofs.YthfkppjajmjpnaaDoor.Wr
end
section
namespace Go.Proofs.YthfkppjajmjpnaaDoor.Wr
open Go Go.RowKit
open Rely Auto Own Sha
theorem Qcv (s : Option (List Int)) (a b:List Int):rawS (rawS s a) b=rawS s (a++b):=by
  cases s with
  | none=>rfl
  | some xs =>
    unfold rawS
    simp only [Option.bind_some]
    by_cases h1:xs.length+a.length≤65536
    · rw [if_pos h1]
      simp only [Option.bind_some,List.length_append]
      by_cases h2:xs.length+a.length+b.length≤65536
      · rw [if_pos h2,if_pos (by omega),List.append_assoc]
      · rw [if_neg h2,if_neg (by omega)]
    · rw [if_neg h1,if_neg (by rw [List.length_append]; omega)]
      rfl
theorem QhN (n : Int):∀ (k:Nat) (s:Option (List Int)),numR n (k+1) s=rawS s (beV n (k+1))
  | 0,s=>rfl
  | k+1,s=>by
    show numR n (k+1) (rawS s [byV n (k+1)])=_
    rw [QhN n k,Qcv]
    rfl
theorem QfF (n : Int):∀ k:Nat,numR n k none=none
  | 0=>rfl
  | k+1=>QfF n k
theorem QlX (n : Int) (k:Nat) (m:Int) (hm:(2:Int)^(8*k)=m+1) (h0:0≤m):okN n k=inB n m:=by
  unfold okN inB
  rw [hm,Int.fdiv_eq_ediv_of_nonneg _ (by omega),Bool.eq_iff_iff]
  simp only [Bool.and_eq_true,decide_eq_true_eq,beq_iff_eq]
  constructor
  · rintro ⟨h1,h2⟩
    have h3:=Int.lt_ediv_add_one_mul_self n (show 0<m+1 by omega)
    rw [h2] at h3
    exact ⟨h1,by omega⟩
  · rintro ⟨h1,h2⟩
    exact ⟨h1,Int.ediv_eq_zero_of_lt h1 (by omega)⟩
theorem QcT (s : Option (List Int)) (n:Int) (k:Nat) (m:Int) (hm:(2:Int)^(8*(k+1))=m+1) (h0:0≤m):numS s n (k+1)=bif inB n m then rawS s (beV n (k+1)) else none:=by
  unfold numS
  rw [QlX n (k+1) m hm h0]
  cases inB n m with
  | true=>exact QhN n k s
  | false=>exact QfF n (k+1)
theorem QgC (s : Option (List Int)) (n:Int):Qcm s n=bif inB n 31 then rawS s (beV n 1) else none:=by
  unfold Qcm
  rw [QcT _ n 0 255 (by decide) (by decide)]
  by_cases h:n<32
  · rw [decide_eq_true h]
    by_cases h0:0≤n
    · rw [show inB n 255=true by unfold inB; simp; omega,show inB n 31=true by unfold inB; simp; omega]; rfl
    · rw [show inB n 255=false by unfold inB; simp; omega,show inB n 31=false by unfold inB; simp; omega]; rfl
  · rw [decide_eq_false h,show inB n 31=false by unfold inB; simp; omega]
    cases inB n 255 <;> rfl
theorem QiN (ys : List Int):rawS (some []) ys=fitV ys:=by
  unfold rawS fitV
  simp only [Option.bind_some,List.length_nil,Nat.zero_add,List.nil_append]
end Go.Proofs.YthfkppjajmjpnaaDoor.Wr
end
section
namespace Go.Proofs.YthfkppjajmjpnaaDoor.Wr
open Go Go.RowKit
open Rely Auto Own Sha
def Qb8 (us : Bool) (nm:Int) (key sg pa ms:List Int):Bool:=!us&&(nm==0)&&decide (key=List.replicate 32 0)&&decide (sg=List.replicate 32 0)&&decide (pa=List.replicate 32 0)&&(ms.length==0)
theorem Qlz (nm : Int) (key sg pa ms:List Int) (a_m:Option Addr) (c_m:Nat) (w:World) (hkl:key.length=32) (hgl:sg.length=32) (hpl:pa.length=32)  : Calls Tryd.prog 86 #[.agg (cat [#[.bool true],#[.int .i64 nm],ints .u8 (key),ints .u8 (sg),ints .u8 (pa),#[.slice a_m ms.length c_m]])] w (Ret w (.bool false)):=by
  refine enter 35 [(0,.agg (cat [#[.bool true],#[.int .i64 nm],ints .u8 (key),ints .u8 (sg),ints .u8 (pa),#[.slice a_m ms.length c_m]]))] Tryd.func86 rfl rfl kj rfl ?_
  refine wp_seq_k fun K1 hK1=>?_
  refine Qad ?_
  refine Qal (cat [#[.bool true],#[.int .i64 nm],ints .u8 (key),ints .u8 (sg),ints .u8 (pa),#[.slice a_m ms.length c_m]]) 50 1 rfl kj kj fun g2 W1 l2 e1 r2_1=>?_
  have x1:Ext w W1:=Ext.tr (Rely.Ext.refl w) e1
  have b2:w.heap.size≤g2:=qT (Rely.Ext.refl w).size l2
  refine Qaa (.bool false) 2 rfl kj kj ?_
  refine Qaj ?_
  refine hK1 _ _ ?_
  refine wp_seq_k fun K3 hK3=>?_
  refine Qad ?_
  refine Qaa (.pointer (some ⟨g2,0,none⟩)) 3 rfl kj kj ?_
  refine Qaa (.bool true) 4 rfl kj (Qaf 4 _ g2 0 50 _ (.bool true) _ r2_1 rfl kj (Qah [] [#[.bool true]] [#[.int .i64 nm],ints .u8 (key),ints .u8 (sg),ints .u8 (pa),#[.slice a_m ms.length c_m]] 0 kj 0 _ rfl) kj) ?_
  refine Qaa (.bool false) 5 rfl kj kj ?_
  refine Qaa (.bool false) 6 rfl kj kj ?_
  refine Qa6 7 rfl kj ?_
  refine Qa6 8 rfl kj ?_
  refine Qa6 9 rfl kj ?_
  refine Qaa (.bool false) 10 rfl kj kj ?_
  refine Qaa (.bool false) 11 rfl kj kj ?_
  refine Qa6 12 rfl kj ?_
  refine Qa6 13 rfl kj ?_
  refine Qa6 14 rfl kj ?_
  refine Qa6 15 rfl kj ?_
  refine Qaa (.bool false) 16 rfl kj kj ?_
  refine Qaa (.bool false) 17 rfl kj kj ?_
  refine Qa6 18 rfl kj ?_
  refine Qa6 19 rfl kj ?_
  refine Qa6 20 rfl kj ?_
  refine Qa6 21 rfl kj ?_
  refine Qaa (.bool false) 22 rfl kj kj ?_
  refine Qaa (.bool false) 23 rfl kj kj ?_
  refine Qa6 24 rfl kj ?_
  refine Qa6 25 rfl kj ?_
  refine Qa6 26 rfl kj ?_
  refine Qa6 27 rfl kj ?_
  refine Qaa (.bool false) 28 rfl kj kj ?_
  refine Qaa (.bool false) 29 rfl kj kj ?_
  refine Qa6 30 rfl kj ?_
  refine Qa6 31 rfl kj ?_
  refine Qa6 32 rfl kj ?_
  refine Qa6 33 rfl kj ?_
  refine Qaa (.bool false) 34 rfl kj kj ?_
  refine Qaa (.bool false) 2 rfl kj kj ?_
  refine Qaj ?_
  refine hK3 _ _ ?_
  refine wp_ret ?_
  repeat (first | with_reducible refine goR1 ?_ | with_reducible refine goR2 ?_)
  exact (show bodyPost _ _ _ .ret _ _ from ret1 (.bool false) rfl (Qar kj) ⟨rfl,x1⟩)
theorem Qly (nm : Int) (key sg pa ms:List Int) (a_m:Option Addr) (c_m:Nat) (w:World) (hkl:key.length=32) (hgl:sg.length=32) (hpl:pa.length=32) (h1:¬ nm=0):Calls Tryd.prog 86 #[.agg (cat [#[.bool false],#[.int .i64 nm],ints .u8 (key),ints .u8 (sg),ints .u8 (pa),#[.slice a_m ms.length c_m]])] w (Ret w (.bool false)):=by
  refine enter 35 [(0,.agg (cat [#[.bool false],#[.int .i64 nm],ints .u8 (key),ints .u8 (sg),ints .u8 (pa),#[.slice a_m ms.length c_m]]))] Tryd.func86 rfl rfl kj rfl ?_
  refine wp_seq_k fun K1 hK1=>?_
  refine Qad ?_
  refine Qal (cat [#[.bool false],#[.int .i64 nm],ints .u8 (key),ints .u8 (sg),ints .u8 (pa),#[.slice a_m ms.length c_m]]) 50 1 rfl kj kj fun g2 W1 l2 e1 r2_1=>?_
  have x1:Ext w W1:=Ext.tr (Rely.Ext.refl w) e1
  have b2:w.heap.size≤g2:=qT (Rely.Ext.refl w).size l2
  refine Qaa (.bool false) 2 rfl kj kj ?_
  refine Qaj ?_
  refine hK1 _ _ ?_
  refine wp_seq_k fun K3 hK3=>?_
  refine Qad ?_
  refine Qaa (.pointer (some ⟨g2,0,none⟩)) 3 rfl kj kj ?_
  refine Qaa (.bool false) 4 rfl kj (Qaf 4 _ g2 0 50 _ (.bool false) _ r2_1 rfl kj (Qah [] [#[.bool false]] [#[.int .i64 nm],ints .u8 (key),ints .u8 (sg),ints .u8 (pa),#[.slice a_m ms.length c_m]] 0 kj 0 _ rfl) kj) ?_
  refine Qaa (.bool true) 5 rfl kj kj ?_
  refine Qaa (.bool true) 6 rfl kj kj ?_
  refine Qaa (.pointer (some ⟨g2,1,none⟩)) 7 rfl kj kj ?_
  refine Qaa (.int .i64 nm) 8 rfl kj (Qaf 3 _ g2 1 50 _ (.int .i64 nm) _ r2_1 rfl kj (Qah [#[.bool false]] [#[.int .i64 nm]] [ints .u8 (key),ints .u8 (sg),ints .u8 (pa),#[.slice a_m ms.length c_m]] 1 kj 0 _ rfl) kj) ?_
  refine Qaa (.bool false) 9 rfl kj (Qag (u:=.bool ((nm==0))) kj (congrArg Value.bool (beq_eq_false_iff_ne.2 h1))) ?_
  refine Qaa (.bool false) 10 rfl kj kj ?_
  refine Qaa (.bool false) 11 rfl kj kj ?_
  refine Qa6 12 rfl kj ?_
  refine Qa6 13 rfl kj ?_
  refine Qa6 14 rfl kj ?_
  refine Qa6 15 rfl kj ?_
  refine Qaa (.bool false) 16 rfl kj kj ?_
  refine Qaa (.bool false) 17 rfl kj kj ?_
  refine Qa6 18 rfl kj ?_
  refine Qa6 19 rfl kj ?_
  refine Qa6 20 rfl kj ?_
  refine Qa6 21 rfl kj ?_
  refine Qaa (.bool false) 22 rfl kj kj ?_
  refine Qaa (.bool false) 23 rfl kj kj ?_
  refine Qa6 24 rfl kj ?_
  refine Qa6 25 rfl kj ?_
  refine Qa6 26 rfl kj ?_
  refine Qa6 27 rfl kj ?_
  refine Qaa (.bool false) 28 rfl kj kj ?_
  refine Qaa (.bool false) 29 rfl kj kj ?_
  refine Qa6 30 rfl kj ?_
  refine Qa6 31 rfl kj ?_
  refine Qa6 32 rfl kj ?_
  refine Qa6 33 rfl kj ?_
  refine Qaa (.bool false) 34 rfl kj kj ?_
  refine Qaa (.bool false) 2 rfl kj kj ?_
  refine Qaj ?_
  refine hK3 _ _ ?_
  refine wp_ret ?_
  repeat (first | with_reducible refine goR1 ?_ | with_reducible refine goR2 ?_)
  exact (show bodyPost _ _ _ .ret _ _ from ret1 (.bool false) rfl (Qar kj) ⟨rfl,x1⟩)
theorem Qlx (nm : Int) (key sg pa ms:List Int) (a_m:Option Addr) (c_m:Nat) (w:World) (hkl:key.length=32) (hgl:sg.length=32) (hpl:pa.length=32) (h1:nm=0) (h2:¬ key=List.replicate 32 0):Calls Tryd.prog 86 #[.agg (cat [#[.bool false],#[.int .i64 nm],ints .u8 (key),ints .u8 (sg),ints .u8 (pa),#[.slice a_m ms.length c_m]])] w (Ret w (.bool false)):=by
  refine enter 35 [(0,.agg (cat [#[.bool false],#[.int .i64 nm],ints .u8 (key),ints .u8 (sg),ints .u8 (pa),#[.slice a_m ms.length c_m]]))] Tryd.func86 rfl rfl kj rfl ?_
  refine wp_seq_k fun K1 hK1=>?_
  refine Qad ?_
  refine Qal (cat [#[.bool false],#[.int .i64 nm],ints .u8 (key),ints .u8 (sg),ints .u8 (pa),#[.slice a_m ms.length c_m]]) 50 1 rfl kj kj fun g2 W1 l2 e1 r2_1=>?_
  have x1:Ext w W1:=Ext.tr (Rely.Ext.refl w) e1
  have b2:w.heap.size≤g2:=qT (Rely.Ext.refl w).size l2
  refine Qaa (.bool false) 2 rfl kj kj ?_
  refine Qaj ?_
  refine hK1 _ _ ?_
  refine wp_seq_k fun K3 hK3=>?_
  refine Qad ?_
  refine Qaa (.pointer (some ⟨g2,0,none⟩)) 3 rfl kj kj ?_
  refine Qaa (.bool false) 4 rfl kj (Qaf 4 _ g2 0 50 _ (.bool false) _ r2_1 rfl kj (Qah [] [#[.bool false]] [#[.int .i64 nm],ints .u8 (key),ints .u8 (sg),ints .u8 (pa),#[.slice a_m ms.length c_m]] 0 kj 0 _ rfl) kj) ?_
  refine Qaa (.bool true) 5 rfl kj kj ?_
  refine Qaa (.bool true) 6 rfl kj kj ?_
  refine Qaa (.pointer (some ⟨g2,1,none⟩)) 7 rfl kj kj ?_
  refine Qaa (.int .i64 nm) 8 rfl kj (Qaf 3 _ g2 1 50 _ (.int .i64 nm) _ r2_1 rfl kj (Qah [#[.bool false]] [#[.int .i64 nm]] [ints .u8 (key),ints .u8 (sg),ints .u8 (pa),#[.slice a_m ms.length c_m]] 1 kj 0 _ rfl) kj) ?_
  refine Qaa (.bool true) 9 rfl kj (Qag (u:=.bool ((nm==0))) kj (congrArg Value.bool (beq_iff_eq.2 h1))) ?_
  refine Qaa (.bool true) 10 rfl kj kj ?_
  refine Qaa (.bool true) 11 rfl kj kj ?_
  refine Qaa (.pointer (some ⟨g2,2,none⟩)) 12 rfl kj kj ?_
  refine Qaa (.agg (ints .u8 (key))) 13 rfl kj (Qao 48 _ g2 2 50 _ _ _ r2_1 rfl kj (Qah [#[.bool false],#[.int .i64 nm]] [ints .u8 (key)] [ints .u8 (sg),ints .u8 (pa),#[.slice a_m ms.length c_m]] 2 kj) kj (isz (n:=32) kj ((Qac _ _).trans hkl))) ?_
  refine Qaa (.agg (ints .u8 (List.replicate 32 0))) 14 rfl kj kj ?_
  refine Qaa (.bool false) 15 rfl kj (QaD 48 _ _ _ _ _ (.bool false) rfl kj kj kj (QaS 48 (e:=5) (k:=.u8) (key) (List.replicate 32 0) (decide_eq_false h2) hkl (qZ (n:=32)) kj kj kj _)) ?_
  refine Qaa (.bool false) 16 rfl kj kj ?_
  refine Qaa (.bool false) 17 rfl kj kj ?_
  refine Qa6 18 rfl kj ?_
  refine Qa6 19 rfl kj ?_
  refine Qa6 20 rfl kj ?_
  refine Qa6 21 rfl kj ?_
  refine Qaa (.bool false) 22 rfl kj kj ?_
  refine Qaa (.bool false) 23 rfl kj kj ?_
  refine Qa6 24 rfl kj ?_
  refine Qa6 25 rfl kj ?_
  refine Qa6 26 rfl kj ?_
  refine Qa6 27 rfl kj ?_
  refine Qaa (.bool false) 28 rfl kj kj ?_
  refine Qaa (.bool false) 29 rfl kj kj ?_
  refine Qa6 30 rfl kj ?_
  refine Qa6 31 rfl kj ?_
  refine Qa6 32 rfl kj ?_
  refine Qa6 33 rfl kj ?_
  refine Qaa (.bool false) 34 rfl kj kj ?_
  refine Qaa (.bool false) 2 rfl kj kj ?_
  refine Qaj ?_
  refine hK3 _ _ ?_
  refine wp_ret ?_
  repeat (first | with_reducible refine goR1 ?_ | with_reducible refine goR2 ?_)
  exact (show bodyPost _ _ _ .ret _ _ from ret1 (.bool false) rfl (Qar kj) ⟨rfl,x1⟩)
theorem Qlw (nm : Int) (key sg pa ms:List Int) (a_m:Option Addr) (c_m:Nat) (w:World) (hkl:key.length=32) (hgl:sg.length=32) (hpl:pa.length=32) (h1:nm=0) (h2:key=List.replicate 32 0) (h3:¬ sg=List.replicate 32 0):Calls Tryd.prog 86 #[.agg (cat [#[.bool false],#[.int .i64 nm],ints .u8 (key),ints .u8 (sg),ints .u8 (pa),#[.slice a_m ms.length c_m]])] w (Ret w (.bool false)):=by
  refine enter 35 [(0,.agg (cat [#[.bool false],#[.int .i64 nm],ints .u8 (key),ints .u8 (sg),ints .u8 (pa),#[.slice a_m ms.length c_m]]))] Tryd.func86 rfl rfl kj rfl ?_
  refine wp_seq_k fun K1 hK1=>?_
  refine Qad ?_
  refine Qal (cat [#[.bool false],#[.int .i64 nm],ints .u8 (key),ints .u8 (sg),ints .u8 (pa),#[.slice a_m ms.length c_m]]) 50 1 rfl kj kj fun g2 W1 l2 e1 r2_1=>?_
  have x1:Ext w W1:=Ext.tr (Rely.Ext.refl w) e1
  have b2:w.heap.size≤g2:=qT (Rely.Ext.refl w).size l2
  refine Qaa (.bool false) 2 rfl kj kj ?_
  refine Qaj ?_
  refine hK1 _ _ ?_
  refine wp_seq_k fun K3 hK3=>?_
  refine Qad ?_
  refine Qaa (.pointer (some ⟨g2,0,none⟩)) 3 rfl kj kj ?_
  refine Qaa (.bool false) 4 rfl kj (Qaf 4 _ g2 0 50 _ (.bool false) _ r2_1 rfl kj (Qah [] [#[.bool false]] [#[.int .i64 nm],ints .u8 (key),ints .u8 (sg),ints .u8 (pa),#[.slice a_m ms.length c_m]] 0 kj 0 _ rfl) kj) ?_
  refine Qaa (.bool true) 5 rfl kj kj ?_
  refine Qaa (.bool true) 6 rfl kj kj ?_
  refine Qaa (.pointer (some ⟨g2,1,none⟩)) 7 rfl kj kj ?_
  refine Qaa (.int .i64 nm) 8 rfl kj (Qaf 3 _ g2 1 50 _ (.int .i64 nm) _ r2_1 rfl kj (Qah [#[.bool false]] [#[.int .i64 nm]] [ints .u8 (key),ints .u8 (sg),ints .u8 (pa),#[.slice a_m ms.length c_m]] 1 kj 0 _ rfl) kj) ?_
  refine Qaa (.bool true) 9 rfl kj (Qag (u:=.bool ((nm==0))) kj (congrArg Value.bool (beq_iff_eq.2 h1))) ?_
  refine Qaa (.bool true) 10 rfl kj kj ?_
  refine Qaa (.bool true) 11 rfl kj kj ?_
  refine Qaa (.pointer (some ⟨g2,2,none⟩)) 12 rfl kj kj ?_
  refine Qaa (.agg (ints .u8 (key))) 13 rfl kj (Qao 48 _ g2 2 50 _ _ _ r2_1 rfl kj (Qah [#[.bool false],#[.int .i64 nm]] [ints .u8 (key)] [ints .u8 (sg),ints .u8 (pa),#[.slice a_m ms.length c_m]] 2 kj) kj (isz (n:=32) kj ((Qac _ _).trans hkl))) ?_
  refine Qaa (.agg (ints .u8 (List.replicate 32 0))) 14 rfl kj kj ?_
  refine Qaa (.bool true) 15 rfl kj (QaD 48 _ _ _ _ _ (.bool true) rfl kj kj kj (QaS 48 (e:=5) (k:=.u8) (key) (List.replicate 32 0) (decide_eq_true h2) hkl (qZ (n:=32)) kj kj kj _)) ?_
  refine Qaa (.bool true) 16 rfl kj kj ?_
  refine Qaa (.bool true) 17 rfl kj kj ?_
  refine Qaa (.pointer (some ⟨g2,34,none⟩)) 18 rfl kj kj ?_
  refine Qaa (.agg (ints .u8 (sg))) 19 rfl kj (Qao 48 _ g2 34 50 _ _ _ r2_1 rfl kj (Qah [#[.bool false],#[.int .i64 nm],ints .u8 (key)] [ints .u8 (sg)] [ints .u8 (pa),#[.slice a_m ms.length c_m]] 34 (by rw [Qab,Qab,Qab]; simp only [qS,cat,((Qac _ _).trans hkl)]; rfl)) kj (isz (n:=32) kj ((Qac _ _).trans hgl))) ?_
  refine Qaa (.agg (ints .u8 (List.replicate 32 0))) 20 rfl kj kj ?_
  refine Qaa (.bool false) 21 rfl kj (QaD 48 _ _ _ _ _ (.bool false) rfl kj kj kj (QaS 48 (e:=5) (k:=.u8) (sg) (List.replicate 32 0) (decide_eq_false h3) hgl (qZ (n:=32)) kj kj kj _)) ?_
  refine Qaa (.bool false) 22 rfl kj kj ?_
  refine Qaa (.bool false) 23 rfl kj kj ?_
  refine Qa6 24 rfl kj ?_
  refine Qa6 25 rfl kj ?_
  refine Qa6 26 rfl kj ?_
  refine Qa6 27 rfl kj ?_
  refine Qaa (.bool false) 28 rfl kj kj ?_
  refine Qaa (.bool false) 29 rfl kj kj ?_
  refine Qa6 30 rfl kj ?_
  refine Qa6 31 rfl kj ?_
  refine Qa6 32 rfl kj ?_
  refine Qa6 33 rfl kj ?_
  refine Qaa (.bool false) 34 rfl kj kj ?_
  refine Qaa (.bool false) 2 rfl kj kj ?_
  refine Qaj ?_
  refine hK3 _ _ ?_
  refine wp_ret ?_
  repeat (first | with_reducible refine goR1 ?_ | with_reducible refine goR2 ?_)
  exact (show bodyPost _ _ _ .ret _ _ from ret1 (.bool false) rfl (Qar kj) ⟨rfl,x1⟩)
theorem Qlv (nm : Int) (key sg pa ms:List Int) (a_m:Option Addr) (c_m:Nat) (w:World) (hkl:key.length=32) (hgl:sg.length=32) (hpl:pa.length=32) (h1:nm=0) (h2:key=List.replicate 32 0) (h3:sg=List.replicate 32 0) (h4:¬ pa=List.replicate 32 0):Calls Tryd.prog 86 #[.agg (cat [#[.bool false],#[.int .i64 nm],ints .u8 (key),ints .u8 (sg),ints .u8 (pa),#[.slice a_m ms.length c_m]])] w (Ret w (.bool false)):=by
  refine enter 35 [(0,.agg (cat [#[.bool false],#[.int .i64 nm],ints .u8 (key),ints .u8 (sg),ints .u8 (pa),#[.slice a_m ms.length c_m]]))] Tryd.func86 rfl rfl kj rfl ?_
  refine wp_seq_k fun K1 hK1=>?_
  refine Qad ?_
  refine Qal (cat [#[.bool false],#[.int .i64 nm],ints .u8 (key),ints .u8 (sg),ints .u8 (pa),#[.slice a_m ms.length c_m]]) 50 1 rfl kj kj fun g2 W1 l2 e1 r2_1=>?_
  have x1:Ext w W1:=Ext.tr (Rely.Ext.refl w) e1
  have b2:w.heap.size≤g2:=qT (Rely.Ext.refl w).size l2
  refine Qaa (.bool false) 2 rfl kj kj ?_
  refine Qaj ?_
  refine hK1 _ _ ?_
  refine wp_seq_k fun K3 hK3=>?_
  refine Qad ?_
  refine Qaa (.pointer (some ⟨g2,0,none⟩)) 3 rfl kj kj ?_
  refine Qaa (.bool false) 4 rfl kj (Qaf 4 _ g2 0 50 _ (.bool false) _ r2_1 rfl kj (Qah [] [#[.bool false]] [#[.int .i64 nm],ints .u8 (key),ints .u8 (sg),ints .u8 (pa),#[.slice a_m ms.length c_m]] 0 kj 0 _ rfl) kj) ?_
  refine Qaa (.bool true) 5 rfl kj kj ?_
  refine Qaa (.bool true) 6 rfl kj kj ?_
  refine Qaa (.pointer (some ⟨g2,1,none⟩)) 7 rfl kj kj ?_
  refine Qaa (.int .i64 nm) 8 rfl kj (Qaf 3 _ g2 1 50 _ (.int .i64 nm) _ r2_1 rfl kj (Qah [#[.bool false]] [#[.int .i64 nm]] [ints .u8 (key),ints .u8 (sg),ints .u8 (pa),#[.slice a_m ms.length c_m]] 1 kj 0 _ rfl) kj) ?_
  refine Qaa (.bool true) 9 rfl kj (Qag (u:=.bool ((nm==0))) kj (congrArg Value.bool (beq_iff_eq.2 h1))) ?_
  refine Qaa (.bool true) 10 rfl kj kj ?_
  refine Qaa (.bool true) 11 rfl kj kj ?_
  refine Qaa (.pointer (some ⟨g2,2,none⟩)) 12 rfl kj kj ?_
  refine Qaa (.agg (ints .u8 (key))) 13 rfl kj (Qao 48 _ g2 2 50 _ _ _ r2_1 rfl kj (Qah [#[.bool false],#[.int .i64 nm]] [ints .u8 (key)] [ints .u8 (sg),ints .u8 (pa),#[.slice a_m ms.length c_m]] 2 kj) kj (isz (n:=32) kj ((Qac _ _).trans hkl))) ?_
  refine Qaa (.agg (ints .u8 (List.replicate 32 0))) 14 rfl kj kj ?_
  refine Qaa (.bool true) 15 rfl kj (QaD 48 _ _ _ _ _ (.bool true) rfl kj kj kj (QaS 48 (e:=5) (k:=.u8) (key) (List.replicate 32 0) (decide_eq_true h2) hkl (qZ (n:=32)) kj kj kj _)) ?_
  refine Qaa (.bool true) 16 rfl kj kj ?_
  refine Qaa (.bool true) 17 rfl kj kj ?_
  refine Qaa (.pointer (some ⟨g2,34,none⟩)) 18 rfl kj kj ?_
  refine Qaa (.agg (ints .u8 (sg))) 19 rfl kj (Qao 48 _ g2 34 50 _ _ _ r2_1 rfl kj (Qah [#[.bool false],#[.int .i64 nm],ints .u8 (key)] [ints .u8 (sg)] [ints .u8 (pa),#[.slice a_m ms.length c_m]] 34 (by rw [Qab,Qab,Qab]; simp only [qS,cat,((Qac _ _).trans hkl)]; rfl)) kj (isz (n:=32) kj ((Qac _ _).trans hgl))) ?_
  refine Qaa (.agg (ints .u8 (List.replicate 32 0))) 20 rfl kj kj ?_
  refine Qaa (.bool true) 21 rfl kj (QaD 48 _ _ _ _ _ (.bool true) rfl kj kj kj (QaS 48 (e:=5) (k:=.u8) (sg) (List.replicate 32 0) (decide_eq_true h3) hgl (qZ (n:=32)) kj kj kj _)) ?_
  refine Qaa (.bool true) 22 rfl kj kj ?_
  refine Qaa (.bool true) 23 rfl kj kj ?_
  refine Qaa (.pointer (some ⟨g2,66,none⟩)) 24 rfl kj kj ?_
  refine Qaa (.agg (ints .u8 (pa))) 25 rfl kj (Qao 28 _ g2 66 50 _ _ _ r2_1 rfl kj (Qah [#[.bool false],#[.int .i64 nm],ints .u8 (key),ints .u8 (sg)] [ints .u8 (pa)] [#[.slice a_m ms.length c_m]] 66 (by rw [Qab,Qab,Qab,Qab]; simp only [qS,cat,((Qac _ _).trans hgl),((Qac _ _).trans hkl)]; rfl)) kj (isz (n:=32) kj ((Qac _ _).trans hpl))) ?_
  refine Qaa (.agg (ints .u8 (List.replicate 32 0))) 26 rfl kj kj ?_
  refine Qaa (.bool false) 27 rfl kj (QaD 28 _ _ _ _ _ (.bool false) rfl kj kj kj (QaS 28 (e:=5) (k:=.u8) (pa) (List.replicate 32 0) (decide_eq_false h4) hpl (qZ (n:=32)) kj kj kj _)) ?_
  refine Qaa (.bool false) 28 rfl kj kj ?_
  refine Qaa (.bool false) 29 rfl kj kj ?_
  refine Qa6 30 rfl kj ?_
  refine Qa6 31 rfl kj ?_
  refine Qa6 32 rfl kj ?_
  refine Qa6 33 rfl kj ?_
  refine Qaa (.bool false) 34 rfl kj kj ?_
  refine Qaa (.bool false) 2 rfl kj kj ?_
  refine Qaj ?_
  refine hK3 _ _ ?_
  refine wp_ret ?_
  repeat (first | with_reducible refine goR1 ?_ | with_reducible refine goR2 ?_)
  exact (show bodyPost _ _ _ .ret _ _ from ret1 (.bool false) rfl (Qar kj) ⟨rfl,x1⟩)
theorem Qlu (nm : Int) (key sg pa ms:List Int) (a_m:Option Addr) (c_m:Nat) (w:World) (hkl:key.length=32) (hgl:sg.length=32) (hpl:pa.length=32) (h1:nm=0) (h2:key=List.replicate 32 0) (h3:sg=List.replicate 32 0) (h4:pa=List.replicate 32 0) (h5:¬ ms.length=0):Calls Tryd.prog 86 #[.agg (cat [#[.bool false],#[.int .i64 nm],ints .u8 (key),ints .u8 (sg),ints .u8 (pa),#[.slice a_m ms.length c_m]])] w (Ret w (.bool false)):=by
  refine enter 35 [(0,.agg (cat [#[.bool false],#[.int .i64 nm],ints .u8 (key),ints .u8 (sg),ints .u8 (pa),#[.slice a_m ms.length c_m]]))] Tryd.func86 rfl rfl kj rfl ?_
  refine wp_seq_k fun K1 hK1=>?_
  refine Qad ?_
  refine Qal (cat [#[.bool false],#[.int .i64 nm],ints .u8 (key),ints .u8 (sg),ints .u8 (pa),#[.slice a_m ms.length c_m]]) 50 1 rfl kj kj fun g2 W1 l2 e1 r2_1=>?_
  have x1:Ext w W1:=Ext.tr (Rely.Ext.refl w) e1
  have b2:w.heap.size≤g2:=qT (Rely.Ext.refl w).size l2
  refine Qaa (.bool false) 2 rfl kj kj ?_
  refine Qaj ?_
  refine hK1 _ _ ?_
  refine wp_seq_k fun K3 hK3=>?_
  refine Qad ?_
  refine Qaa (.pointer (some ⟨g2,0,none⟩)) 3 rfl kj kj ?_
  refine Qaa (.bool false) 4 rfl kj (Qaf 4 _ g2 0 50 _ (.bool false) _ r2_1 rfl kj (Qah [] [#[.bool false]] [#[.int .i64 nm],ints .u8 (key),ints .u8 (sg),ints .u8 (pa),#[.slice a_m ms.length c_m]] 0 kj 0 _ rfl) kj) ?_
  refine Qaa (.bool true) 5 rfl kj kj ?_
  refine Qaa (.bool true) 6 rfl kj kj ?_
  refine Qaa (.pointer (some ⟨g2,1,none⟩)) 7 rfl kj kj ?_
  refine Qaa (.int .i64 nm) 8 rfl kj (Qaf 3 _ g2 1 50 _ (.int .i64 nm) _ r2_1 rfl kj (Qah [#[.bool false]] [#[.int .i64 nm]] [ints .u8 (key),ints .u8 (sg),ints .u8 (pa),#[.slice a_m ms.length c_m]] 1 kj 0 _ rfl) kj) ?_
  refine Qaa (.bool true) 9 rfl kj (Qag (u:=.bool ((nm==0))) kj (congrArg Value.bool (beq_iff_eq.2 h1))) ?_
  refine Qaa (.bool true) 10 rfl kj kj ?_
  refine Qaa (.bool true) 11 rfl kj kj ?_
  refine Qaa (.pointer (some ⟨g2,2,none⟩)) 12 rfl kj kj ?_
  refine Qaa (.agg (ints .u8 (key))) 13 rfl kj (Qao 48 _ g2 2 50 _ _ _ r2_1 rfl kj (Qah [#[.bool false],#[.int .i64 nm]] [ints .u8 (key)] [ints .u8 (sg),ints .u8 (pa),#[.slice a_m ms.length c_m]] 2 kj) kj (isz (n:=32) kj ((Qac _ _).trans hkl))) ?_
  refine Qaa (.agg (ints .u8 (List.replicate 32 0))) 14 rfl kj kj ?_
  refine Qaa (.bool true) 15 rfl kj (QaD 48 _ _ _ _ _ (.bool true) rfl kj kj kj (QaS 48 (e:=5) (k:=.u8) (key) (List.replicate 32 0) (decide_eq_true h2) hkl (qZ (n:=32)) kj kj kj _)) ?_
  refine Qaa (.bool true) 16 rfl kj kj ?_
  refine Qaa (.bool true) 17 rfl kj kj ?_
  refine Qaa (.pointer (some ⟨g2,34,none⟩)) 18 rfl kj kj ?_
  refine Qaa (.agg (ints .u8 (sg))) 19 rfl kj (Qao 48 _ g2 34 50 _ _ _ r2_1 rfl kj (Qah [#[.bool false],#[.int .i64 nm],ints .u8 (key)] [ints .u8 (sg)] [ints .u8 (pa),#[.slice a_m ms.length c_m]] 34 (by rw [Qab,Qab,Qab]; simp only [qS,cat,((Qac _ _).trans hkl)]; rfl)) kj (isz (n:=32) kj ((Qac _ _).trans hgl))) ?_
  refine Qaa (.agg (ints .u8 (List.replicate 32 0))) 20 rfl kj kj ?_
  refine Qaa (.bool true) 21 rfl kj (QaD 48 _ _ _ _ _ (.bool true) rfl kj kj kj (QaS 48 (e:=5) (k:=.u8) (sg) (List.replicate 32 0) (decide_eq_true h3) hgl (qZ (n:=32)) kj kj kj _)) ?_
  refine Qaa (.bool true) 22 rfl kj kj ?_
  refine Qaa (.bool true) 23 rfl kj kj ?_
  refine Qaa (.pointer (some ⟨g2,66,none⟩)) 24 rfl kj kj ?_
  refine Qaa (.agg (ints .u8 (pa))) 25 rfl kj (Qao 28 _ g2 66 50 _ _ _ r2_1 rfl kj (Qah [#[.bool false],#[.int .i64 nm],ints .u8 (key),ints .u8 (sg)] [ints .u8 (pa)] [#[.slice a_m ms.length c_m]] 66 (by rw [Qab,Qab,Qab,Qab]; simp only [qS,cat,((Qac _ _).trans hgl),((Qac _ _).trans hkl)]; rfl)) kj (isz (n:=32) kj ((Qac _ _).trans hpl))) ?_
  refine Qaa (.agg (ints .u8 (List.replicate 32 0))) 26 rfl kj kj ?_
  refine Qaa (.bool true) 27 rfl kj (QaD 28 _ _ _ _ _ (.bool true) rfl kj kj kj (QaS 28 (e:=5) (k:=.u8) (pa) (List.replicate 32 0) (decide_eq_true h4) hpl (qZ (n:=32)) kj kj kj _)) ?_
  refine Qaa (.bool true) 28 rfl kj kj ?_
  refine Qaa (.bool true) 29 rfl kj kj ?_
  refine Qaa (.pointer (some ⟨g2,98,none⟩)) 30 rfl kj kj ?_
  refine Qaa (.slice a_m ms.length c_m) 31 rfl kj (Qaf 24 _ g2 98 50 _ (.slice a_m ms.length c_m) _ r2_1 rfl kj (Qah [#[.bool false],#[.int .i64 nm],ints .u8 (key),ints .u8 (sg),ints .u8 (pa)] [#[.slice a_m ms.length c_m]] [] 98 (by rw [Qab,Qab,Qab,Qab,Qab]; simp only [qS,cat,((Qac _ _).trans hgl),((Qac _ _).trans hkl),((Qac _ _).trans hpl)]; rfl) 0 _ rfl) kj) ?_
  refine Qaa (.int .i64 ((ms.length:Nat):Int)) 32 rfl kj kj ?_
  refine Qaa (.bool false) 33 rfl kj (Qag (u:=.bool ((((ms.length:Nat):Int)==0))) kj (congrArg Value.bool (beq_eq_false_iff_ne.2 (by omega)))) ?_
  refine Qaa (.bool false) 34 rfl kj kj ?_
  refine Qaa (.bool false) 2 rfl kj kj ?_
  refine Qaj ?_
  refine hK3 _ _ ?_
  refine wp_ret ?_
  repeat (first | with_reducible refine goR1 ?_ | with_reducible refine goR2 ?_)
  exact (show bodyPost _ _ _ .ret _ _ from ret1 (.bool false) rfl (Qar kj) ⟨rfl,x1⟩)
theorem Qlt (nm : Int) (key sg pa ms:List Int) (a_m:Option Addr) (c_m:Nat) (w:World) (hkl:key.length=32) (hgl:sg.length=32) (hpl:pa.length=32) (h1:nm=0) (h2:key=List.replicate 32 0) (h3:sg=List.replicate 32 0) (h4:pa=List.replicate 32 0) (h5:ms.length=0):Calls Tryd.prog 86 #[.agg (cat [#[.bool false],#[.int .i64 nm],ints .u8 (key),ints .u8 (sg),ints .u8 (pa),#[.slice a_m ms.length c_m]])] w (Ret w (.bool true)):=by
  refine enter 35 [(0,.agg (cat [#[.bool false],#[.int .i64 nm],ints .u8 (key),ints .u8 (sg),ints .u8 (pa),#[.slice a_m ms.length c_m]]))] Tryd.func86 rfl rfl kj rfl ?_
  refine wp_seq_k fun K1 hK1=>?_
  refine Qad ?_
  refine Qal (cat [#[.bool false],#[.int .i64 nm],ints .u8 (key),ints .u8 (sg),ints .u8 (pa),#[.slice a_m ms.length c_m]]) 50 1 rfl kj kj fun g2 W1 l2 e1 r2_1=>?_
  have x1:Ext w W1:=Ext.tr (Rely.Ext.refl w) e1
  have b2:w.heap.size≤g2:=qT (Rely.Ext.refl w).size l2
  refine Qaa (.bool false) 2 rfl kj kj ?_
  refine Qaj ?_
  refine hK1 _ _ ?_
  refine wp_seq_k fun K3 hK3=>?_
  refine Qad ?_
  refine Qaa (.pointer (some ⟨g2,0,none⟩)) 3 rfl kj kj ?_
  refine Qaa (.bool false) 4 rfl kj (Qaf 4 _ g2 0 50 _ (.bool false) _ r2_1 rfl kj (Qah [] [#[.bool false]] [#[.int .i64 nm],ints .u8 (key),ints .u8 (sg),ints .u8 (pa),#[.slice a_m ms.length c_m]] 0 kj 0 _ rfl) kj) ?_
  refine Qaa (.bool true) 5 rfl kj kj ?_
  refine Qaa (.bool true) 6 rfl kj kj ?_
  refine Qaa (.pointer (some ⟨g2,1,none⟩)) 7 rfl kj kj ?_
  refine Qaa (.int .i64 nm) 8 rfl kj (Qaf 3 _ g2 1 50 _ (.int .i64 nm) _ r2_1 rfl kj (Qah [#[.bool false]] [#[.int .i64 nm]] [ints .u8 (key),ints .u8 (sg),ints .u8 (pa),#[.slice a_m ms.length c_m]] 1 kj 0 _ rfl) kj) ?_
  refine Qaa (.bool true) 9 rfl kj (Qag (u:=.bool ((nm==0))) kj (congrArg Value.bool (beq_iff_eq.2 h1))) ?_
  refine Qaa (.bool true) 10 rfl kj kj ?_
  refine Qaa (.bool true) 11 rfl kj kj ?_
  refine Qaa (.pointer (some ⟨g2,2,none⟩)) 12 rfl kj kj ?_
  refine Qaa (.agg (ints .u8 (key))) 13 rfl kj (Qao 48 _ g2 2 50 _ _ _ r2_1 rfl kj (Qah [#[.bool false],#[.int .i64 nm]] [ints .u8 (key)] [ints .u8 (sg),ints .u8 (pa),#[.slice a_m ms.length c_m]] 2 kj) kj (isz (n:=32) kj ((Qac _ _).trans hkl))) ?_
  refine Qaa (.agg (ints .u8 (List.replicate 32 0))) 14 rfl kj kj ?_
  refine Qaa (.bool true) 15 rfl kj (QaD 48 _ _ _ _ _ (.bool true) rfl kj kj kj (QaS 48 (e:=5) (k:=.u8) (key) (List.replicate 32 0) (decide_eq_true h2) hkl (qZ (n:=32)) kj kj kj _)) ?_
  refine Qaa (.bool true) 16 rfl kj kj ?_
  refine Qaa (.bool true) 17 rfl kj kj ?_
  refine Qaa (.pointer (some ⟨g2,34,none⟩)) 18 rfl kj kj ?_
  refine Qaa (.agg (ints .u8 (sg))) 19 rfl kj (Qao 48 _ g2 34 50 _ _ _ r2_1 rfl kj (Qah [#[.bool false],#[.int .i64 nm],ints .u8 (key)] [ints .u8 (sg)] [ints .u8 (pa),#[.slice a_m ms.length c_m]] 34 (by rw [Qab,Qab,Qab]; simp only [qS,cat,((Qac _ _).trans hkl)]; rfl)) kj (isz (n:=32) kj ((Qac _ _).trans hgl))) ?_
  refine Qaa (.agg (ints .u8 (List.replicate 32 0))) 20 rfl kj kj ?_
  refine Qaa (.bool true) 21 rfl kj (QaD 48 _ _ _ _ _ (.bool true) rfl kj kj kj (QaS 48 (e:=5) (k:=.u8) (sg) (List.replicate 32 0) (decide_eq_true h3) hgl (qZ (n:=32)) kj kj kj _)) ?_
  refine Qaa (.bool true) 22 rfl kj kj ?_
  refine Qaa (.bool true) 23 rfl kj kj ?_
  refine Qaa (.pointer (some ⟨g2,66,none⟩)) 24 rfl kj kj ?_
  refine Qaa (.agg (ints .u8 (pa))) 25 rfl kj (Qao 28 _ g2 66 50 _ _ _ r2_1 rfl kj (Qah [#[.bool false],#[.int .i64 nm],ints .u8 (key),ints .u8 (sg)] [ints .u8 (pa)] [#[.slice a_m ms.length c_m]] 66 (by rw [Qab,Qab,Qab,Qab]; simp only [qS,cat,((Qac _ _).trans hgl),((Qac _ _).trans hkl)]; rfl)) kj (isz (n:=32) kj ((Qac _ _).trans hpl))) ?_
  refine Qaa (.agg (ints .u8 (List.replicate 32 0))) 26 rfl kj kj ?_
  refine Qaa (.bool true) 27 rfl kj (QaD 28 _ _ _ _ _ (.bool true) rfl kj kj kj (QaS 28 (e:=5) (k:=.u8) (pa) (List.replicate 32 0) (decide_eq_true h4) hpl (qZ (n:=32)) kj kj kj _)) ?_
  refine Qaa (.bool true) 28 rfl kj kj ?_
  refine Qaa (.bool true) 29 rfl kj kj ?_
  refine Qaa (.pointer (some ⟨g2,98,none⟩)) 30 rfl kj kj ?_
  refine Qaa (.slice a_m ms.length c_m) 31 rfl kj (Qaf 24 _ g2 98 50 _ (.slice a_m ms.length c_m) _ r2_1 rfl kj (Qah [#[.bool false],#[.int .i64 nm],ints .u8 (key),ints .u8 (sg),ints .u8 (pa)] [#[.slice a_m ms.length c_m]] [] 98 (by rw [Qab,Qab,Qab,Qab,Qab]; simp only [qS,cat,((Qac _ _).trans hgl),((Qac _ _).trans hkl),((Qac _ _).trans hpl)]; rfl) 0 _ rfl) kj) ?_
  refine Qaa (.int .i64 ((ms.length:Nat):Int)) 32 rfl kj kj ?_
  refine Qaa (.bool true) 33 rfl kj (Qag (u:=.bool ((((ms.length:Nat):Int)==0))) kj (congrArg Value.bool (by rw [h5]; rfl))) ?_
  refine Qaa (.bool true) 34 rfl kj kj ?_
  refine Qaa (.bool true) 2 rfl kj kj ?_
  refine Qaj ?_
  refine hK3 _ _ ?_
  refine wp_ret ?_
  repeat (first | with_reducible refine goR1 ?_ | with_reducible refine goR2 ?_)
  exact (show bodyPost _ _ _ .ret _ _ from ret1 (.bool true) rfl (Qar kj) ⟨rfl,x1⟩)
theorem Qmw (us : Bool) (nm:Int) (key sg pa ms:List Int) (a_m:Option Addr) (c_m:Nat) (w:World) (hkl:key.length=32) (hgl:sg.length=32) (hpl:pa.length=32):Calls Tryd.prog 86 #[.agg (cat [#[.bool us],#[.int .i64 nm],ints .u8 (key),ints .u8 (sg),ints .u8 (pa),#[.slice a_m ms.length c_m]])] w (Ret w (.bool (Qb8 us nm key sg pa ms))):=by
  unfold Qb8
  cases us with
  | true=>exact Qlz nm key sg pa ms a_m c_m w hkl hgl hpl
  | false =>
    by_cases h1:nm=0
    · rw [beq_iff_eq.2 h1]
      by_cases h2:key=List.replicate 32 0
      · rw [decide_eq_true h2]
        by_cases h3:sg=List.replicate 32 0
        · rw [decide_eq_true h3]
          by_cases h4:pa=List.replicate 32 0
          · rw [decide_eq_true h4]
            by_cases h5:ms.length=0
            · rw [beq_iff_eq.2 h5]; exact Qlt nm key sg pa ms a_m c_m w hkl hgl hpl h1 h2 h3 h4 h5
            · rw [beq_eq_false_iff_ne.2 h5]; exact Qlu nm key sg pa ms a_m c_m w hkl hgl hpl h1 h2 h3 h4 h5
          · rw [decide_eq_false h4]; exact Qlv nm key sg pa ms a_m c_m w hkl hgl hpl h1 h2 h3 h4
        · rw [decide_eq_false h3]; exact Qlw nm key sg pa ms a_m c_m w hkl hgl hpl h1 h2 h3
      · rw [decide_eq_false h2]; exact Qlx nm key sg pa ms a_m c_m w hkl hgl hpl h1 h2
    · rw [beq_eq_false_iff_ne.2 h1]; exact Qly nm key sg pa ms a_m c_m w hkl hgl hpl h1
end Go.Proofs.YthfkppjajmjpnaaDoor.Wr
end
section
namespace Go.Proofs.YthfkppjajmjpnaaDoor.Wr
open Go Go.RowKit
open Rely Auto Own Sha
open Wk
def risN (ms : List Int):Nat→Bool
  | 0=>true
  | n+1=>risN ms n&&((n==0) || decide (nth ms (n-1)<nth ms n))
def risV (ms : List Int):Bool:=risN ms ms.length
theorem QeJ (ms : List Int) (k:Nat) (h:risN ms k=false):∀ n,k≤n→risN ms n=false
  | 0,hk=>by
      obtain rfl:k=0:=by omega
      exact h
  | n+1,hk=>by
    by_cases e:k=n+1
    · rw [←e]; exact h
    · unfold risN
      rw [QeJ ms k h n (by omega)]
      rfl
theorem QfA (ms : List Int) (i:Nat) (hr:risN ms (i+1)=true):risN ms (i+1+1)=decide (nth ms i<nth ms (i+1)):=by
  show (risN ms (i+1)&&((i+1==0) || decide (nth ms (i+1-1)<nth ms (i+1))))=_
  rw [hr,beq_eq_false_iff_ne.2 (show i+1≠0 by omega)]
  rfl
theorem QhB (ms : List Int) (a_m:Option Addr) (c_m B:Nat) (w:World) (hml:ms.length≤1000000) (hm:RdK .i64 B ms (.slice a_m ms.length c_m) w):Calls Tryd.prog 88 #[.slice a_m ms.length c_m] w (Ret w (.bool (risV ms))):=by
 refine enter 20 [(0,.slice a_m ms.length c_m)] Tryd.func88 rfl rfl kj rfl <| sgB kj <| wp_seq_k fun K2 hK2=>sgB kj <| wp_block <| Qay (fun (s1:Nat)=>[(0,.slice a_m ms.length c_m),(3,.int .i64 (((s1+1):Nat):Int))]) (fun (s1:Nat) W=>(s1+1≤ms.length∨s1=0)∧(risN ms (s1+1)=true)∧(Ext w W)∧(Ext w W)) (fun (s1:Nat)=>ms.length-s1) 0 ⟨kj,kj,trivial⟩ ⟨(.inr rfl),rfl,(Rely.Ext.refl w),(Rely.Ext.refl w)⟩ fun s1 X1 V1 hI1=>?_
 obtain ⟨ip,hs1⟩:∃ z,z=s1:=⟨_,rfl⟩
 subst hs1
 obtain ⟨hi,hr,kk1,xx1⟩:=hI1
 replace hi:ip+1≤ms.length∨ip=0:=hi
 replace hr:risN ms (ip+1)=true:=hr
 replace kk1:Ext w V1:=kk1
 replace xx1:Ext w V1:=xx1
 have e1:=kk1
 refine wp_seq_k fun K4 hK4=>sgB kj <| Qaq (t:=decide ((((ip+1):Nat):Int)<((ms.length:Nat):Int))) kj (fun c6=>?_) (fun c6=>?_)
 ·skip
  have hlt7:ip+1<ms.length:=by have:=of_decide_eq_true c6; omega
  have hnm_7:(ms).length=ms.length:=rfl
  obtain ⟨gcm_7,ocm_7,ham_7,hlm_7,hcm_7⟩:=QaO (RdK.here (RdK.ext hm xx1)) (by rw [hnm_7]; omega)
  refine wp_skip <| hK4 _ _ <| wp_seq_k fun K8 hK8=>wp_block <| wp_seq_k fun K9 hK9=>Qbe kj fun W2 e2=>?_
  have x2:=Ext.tr xx1 e2
  refine Qas 0 (.slice a_m ms.length c_m) 10 rfl rfl kj kj (fun _ _ _ h=>h) (fun W hR=>by kernel_rfl) <| Qas 1 (.int .i64 (((ip+1):Nat):Int)) 11 rfl rfl kj kj (fun _ _ _ h=>h) (fun W hR=>by kernel_rfl) <| Qas 2 (.int .i64 (((ip:Nat):Int))) 12 rfl rfl kj kj (fun _ _ _ h=>h) (fun W hR=>(Qag (u:=.int .i64 (IntKind.i64.wrap ((((ip+1):Nat):Int)-1))) kj (congrArg (Value.int .i64) (by rw [show (((ip+1:Nat):Int))-1=((ip:Nat):Int) by omega]; exact IntWalk.i64_in _ (by omega))))) ?_
  refine Qas 3 (.pointer (some ⟨gcm_7,ocm_7+ip,none⟩)) 13 rfl rfl kj kj (fun _ _ _ h=>h) (fun W hR=>(Qa1 24 _ _ .i64 ip gcm_7 ocm_7 ms.length c_m 3 a_m _ ham_7 rfl rfl kj kj kj kj (Nat.lt_of_lt_of_eq (show ip<ms.length by omega) hnm_7.symm))) ?_
  have y1_2:=(Rely.Ext.trans (Rely.Ext.refl V1) e2)
  refine Qas 4 (.int .i64 (nth (ms) (ip))) 14 rfl rfl kj kj (fun _ _ _ h=>h) (fun W hR=>(Qai 3 _ _ (.int .i64 (nth (ms) (ip))) ((Below.cell (Rely.Ext.trans y1_2 hR) hlm_7).trans (hcm_7 ip (Nat.lt_of_lt_of_eq (show ip<ms.length by omega) hnm_7.symm))) rfl kj kj)) <| Qas 5 (.slice a_m ms.length c_m) 15 rfl rfl kj kj (fun _ _ _ h=>h) (fun W hR=>by kernel_rfl) <| Qas 6 (.int .i64 (((ip+1):Nat):Int)) 16 rfl rfl kj kj (fun _ _ _ h=>h) (fun W hR=>by kernel_rfl) <| Qas 7 (.pointer (some ⟨gcm_7,ocm_7+(ip+1),none⟩)) 17 rfl rfl kj kj (fun _ _ _ h=>h) (fun W hR=>(Qa1 24 _ _ .i64 (ip+1) gcm_7 ocm_7 ms.length c_m 3 a_m _ ham_7 rfl rfl kj kj kj kj (Nat.lt_of_lt_of_eq (show (ip+1)<ms.length by omega) hnm_7.symm))) <| Qas 8 (.int .i64 (nth (ms) ((ip+1)))) 18 rfl rfl kj kj (fun _ _ _ h=>h) (fun W hR=>(Qai 3 _ _ (.int .i64 (nth (ms) ((ip+1)))) ((Below.cell (Rely.Ext.trans y1_2 hR) hlm_7).trans (hcm_7 (ip+1) (Nat.lt_of_lt_of_eq (show (ip+1)<ms.length by omega) hnm_7.symm))) rfl kj kj)) <| Qas 9 (.bool (decide ((nth (ms) (ip))≥(nth (ms) ((ip+1)))))) 19 rfl rfl kj kj (fun _ _ _ h=>h) (fun W hR=>by kernel_rfl) <| Qcb kj <| hK9 _ _ <| Qaq (t:=decide ((nth (ms) (ip))≥(nth (ms) ((ip+1))))) kj (fun c10=>?_) (fun c10=>?_)
  ·skip
   have hV:risV ms=false:=by
    have hge:=of_decide_eq_true c10
    exact QeJ ms (ip+1+1) (by rw [QfA ms ip hr]; exact decide_eq_false (by omega)) _ (by omega)
   refine sgB kj <| wp_ret ?_
   repeat (first | with_reducible refine goR1 ?_ | with_reducible refine goR2 ?_)
   exact (show bodyPost _ _ _ .ret _ _ from ret1 (.bool false) rfl (Qar kj) ⟨by rw [hV],x2⟩)
  ·skip
   have hr2:risN ms (ip+1+1)=true:=by
    have hge:=of_decide_eq_false c10
    rw [QfA ms ip hr]; exact decide_eq_true (by omega)
   refine wp_skip <| hK8 _ _ <| Qad <| sg 1 kj <| Qaa (.int .i64 (((ip+1)+1:Nat):Int)) 9 rfl kj (Qag (u:=.int .i64 (IntKind.i64.wrap ((((ip+1):Nat):Int)+1))) kj (congrArg (Value.int .i64) (i64n _ _ (by omega) (by omega)))) <| sg 1 kj <| Qaj ?_
   repeat (first | with_reducible refine goX1 ?_ | with_reducible refine goX2 ?_ | with_reducible refine goX3 ?_)
   exact Qap (ip+1) ⟨kj,kj,trivial⟩ ⟨(by omega),hr2,(Rely.Ext.trans e1 e2),x2⟩ (by omega)
 ·skip
  have hV:risV ms=true:=by
   have hge:=of_decide_eq_false c6
   unfold risV
   rcases hi with h | h
   ·rw [show ms.length=ip+1 by omega]; exact hr
   ·rcases Nat.eq_zero_or_pos ms.length with h0 | h0
    ·rw [h0]; rfl
    ·rw [show ms.length=ip+1 by omega]; exact hr
  refine wp_exit <| hK2 _ _ <| sgB kj <| wp_ret ?_
  repeat (first | with_reducible refine goR1 ?_ | with_reducible refine goR2 ?_)
  exact (show bodyPost _ _ _ .ret _ _ from ret1 (.bool true) rfl (Qar kj) ⟨by rw [hV],xx1⟩)
end Go.Proofs.YthfkppjajmjpnaaDoor.Wr
end
section
namespace Go.Proofs.YthfkppjajmjpnaaDoor.Wr
open Go Go.RowKit
open Rely Auto Own Sha
def Qc0 (s : Option (List Int)) (ms:List Int):Option (List Int):=ms.foldl Qcm (numS s ((ms.length:Nat):Int) 1)
theorem Qhk (n : Int):Qcm none n=none:=by rw [QgC]; cases inB n 31 <;> rfl
theorem Qb6 : ∀ ms:List Int,ms.foldl Qcm none=none
  | []=>rfl
  | m::r=>by rw [List.foldl_cons,Qhk]; exact Qb6 r
theorem Qjs (ms : List Int) (i:Nat) (h:i<ms.length):ms.drop i=nth ms i::ms.drop (i+1):=by
  rw [List.drop_eq_getElem_cons h]
  congr 1
  unfold nth
  rw [List.getD_eq_getElem?_getD,List.getElem?_eq_getElem h]
  rfl
theorem QfC {k : IntKind} {base gw:Nat} {w W:World} {ys:List Int} {v:Value} (h:RdK k base ys v w) (q:GW base gw w W) (hb:base≤gw):RdK k base ys v W:=h.keep q.size fun g hg hl=>q.block g hl (by omega) (.inl hg)
theorem QeL (base gw:Nat) (s:Option (List Int)) (ms:List Int) (a_m:Option Addr) (c_m:Nat) (w:World) (hbw:base≤w.heap.size) (hbg:base≤gw) (h:WSt base gw s w) (hml:ms.length≤1000000) (hm:RdK .i64 base ms (.slice a_m ms.length c_m) w):Calls Tryd.prog 89 #[.pointer (some ⟨gw,0,none⟩),.slice a_m ms.length c_m,.func (.func 90) #[] #[]] w (fun e W=>e=.returned (.tuple #[])∧GW base gw w W∧WSt base gw (Qc0 s ms) W):=by
 have hgw:=h.lt
 refine enter 27 [(0,.pointer (some ⟨gw,0,none⟩)),(1,.slice a_m ms.length c_m),(2,.func (.func 90) #[] #[])] Tryd.func89 rfl rfl kj rfl <| sgC fun K1 hK1=>sg 3 kj <| Qa0 (fun v W'=>v=.tuple #[]∧GW base gw w W'∧WSt base gw (numS s ((ms.length:Nat):Int) 1) W') 84 #[.pointer (some ⟨gw,0,none⟩),.int .i64 ((ms.length:Nat):Int),.int .i64 1] 11 rfl kj kj ((Qd5 base gw s ((ms.length:Nat):Int) 1 _ (qT hbw (GW.refl base gw w).size) h (by decide)).mono (by rintro e w' ⟨rfl,h1,h2⟩; exact ⟨_,rfl,rfl,h1,h2⟩)) fun v2 W1 h2=>?_
 obtain ⟨rfl,q1,ws2⟩:=h2
 have x1:GW base gw w W1:=GW.trans (GW.refl base gw w) q1
 refine sgN hK1 <| sgB kj <| wp_block <| Qay (fun (s1:Nat×Option (List Int))=>[(0,.pointer (some ⟨gw,0,none⟩)),(2,.func (.func 90) #[] #[]),(12,.slice a_m ms.length c_m),(13,.int .i64 ((ms.length:Nat):Int)),(14,.int .i64 ((s1.1:Nat):Int))]) (fun (s1:Nat×Option (List Int)) W=>(s1.1≤ms.length)∧(WSt base gw s1.2 W)∧((ms.drop s1.1).foldl Qcm s1.2=Qc0 s ms)∧(GW base gw w W)) (fun (s1:Nat×Option (List Int))=>ms.length-s1.1) (0,numS s ((ms.length:Nat):Int) 1) ⟨kj,kj,kj,kj,kj,trivial⟩ ⟨(Nat.zero_le _),ws2,rfl,x1⟩ fun s1 X1 V1 hI1=>?_
 obtain ⟨i,sc⟩:=s1
 obtain ⟨hi,hws,hnum,xx1⟩:=hI1
 replace hi:i≤ms.length:=hi
 replace hws:WSt base gw sc V1:=hws
 replace hnum:(ms.drop i).foldl Qcm sc=Qc0 s ms:=hnum
 replace xx1:GW base gw w V1:=xx1
 refine sgB kj <| wp_seq_k fun K5 hK5=>Qaq (t:=decide (((i:Nat):Int)<((ms.length:Nat):Int))) kj (fun c6=>?_) (fun c6=>?_)
 ·skip
  have hlt15:i<ms.length:=by have:=of_decide_eq_true c6; omega
  have hnm_7:(ms).length=ms.length:=rfl
  obtain ⟨gcm_7,ocm_7,ham_7,hlm_7,hcm_7⟩:=QaO (RdK.here (QfC hm xx1 hbg)) (by rw [hnm_7]; omega)
  obtain ⟨u8,xs8,bad,rb8,-,-,-,hsc⟩:=id hws
  refine wp_skip <| hK5 _ _ <| wp_seq_k fun K10 hK10=>wp_block <| sgC fun K11 hK11=>Qaa (.pointer (some ⟨gcm_7,ocm_7+i,none⟩)) 16 rfl kj (Qa1 24 _ _ .i64 i gcm_7 ocm_7 ms.length c_m 3 a_m _ ham_7 rfl rfl kj kj kj kj (Nat.lt_of_lt_of_eq (show i<ms.length by omega) hnm_7.symm)) <| Qaa (.int .i64 (nth (ms) (i))) 17 rfl kj (Qai 3 _ _ (.int .i64 (nth (ms) (i))) (hcm_7 i (Nat.lt_of_lt_of_eq (show i<ms.length by omega) hnm_7.symm)) rfl kj kj) <| sg 1 kj <| sgN hK11 <| wp_seq_k fun K12 hK12=>?_
  refine sgC fun K13 hK13=>sg 3 kj <| Qaa (.bool bad) 21 rfl kj (Qaf 4 _ gw 1 111 _ (.bool bad) _ rb8 rfl kj kj kj) <| sgN hK13 <| Qaq (t:=bad) kj (fun c14=>?_) (fun c14=>?_)
  ·skip
   have hbad:bad=true:=c14
   have h9:sc=none:=by rw [hsc,hbad]; rfl
   have h8:Qc0 s ms=none:=by rw [←hnum,h9]; exact Qb6 _
   refine wp_ret ?_
   repeat (first | with_reducible refine goR1 ?_ | with_reducible refine goR2 ?_)
   exact (show bodyPost _ _ _ .ret _ _ from ret0 rfl ⟨rfl,xx1,by rw [h8]; rw [h9] at hws; exact hws⟩)
  ·skip
   refine wp_skip <| hK12 _ _ <| Qad <| sg 3 kj <| Qa0 (fun v W'=>v=.tuple #[]∧GW base gw V1 W'∧WSt base gw (Qcm sc (nth ms i)) W') 90 #[.pointer (some ⟨gw,0,none⟩),.int .i64 (nth (ms) (i))] 25 rfl kj kj ((QmH base gw sc (nth ms i) _ (qT hbw xx1.size) hws).mono (by rintro e w' ⟨rfl,h1,h2⟩; exact ⟨_,rfl,rfl,h1,h2⟩)) fun v15 W3 h15=>?_
   obtain ⟨rfl,q3,ws15⟩:=h15
   have x3:GW base gw w W3:=GW.trans xx1 q3
   refine Qaj <| hK10 _ _ <| Qad <| Qaa (.int .i64 ((i+1:Nat):Int)) 26 rfl kj (Qag (u:=.int .i64 (IntKind.i64.wrap (((i:Nat):Int)+1))) kj (congrArg (Value.int .i64) (i64n _ _ (by omega) (by omega)))) <| sg 1 kj <| Qaj ?_
   repeat (first | with_reducible refine goX1 ?_ | with_reducible refine goX2 ?_ | with_reducible refine goX3 ?_)
   exact Qap ((i+1),Qcm sc (nth ms i)) ⟨kj,kj,kj,kj,kj,trivial⟩ ⟨(by omega),ws15,(by rw [←hnum,Qjs ms i hlt15]; rfl),x3⟩ (by omega)
 ·skip
  have heq15:i=ms.length:=by have:=of_decide_eq_false c6; omega
  refine wp_exit ?_
  repeat (first | with_reducible refine goX1 ?_ | with_reducible refine goX2 ?_ | with_reducible refine goX3 ?_)
  exact (show bodyPost _ _ _ .normal _ _ from end0 rfl ⟨rfl,xx1,by have h9:sc=Qc0 s ms:=(by have h7:=hnum; rw [heq15,List.drop_length] at h7; exact h7); rw [h9] at hws; exact hws⟩)
end Go.Proofs.YthfkppjajmjpnaaDoor.Wr
end
section
namespace Go.Proofs.YthfkppjajmjpnaaDoor.Wr
open Go Go.RowKit
open Rely Auto Own Sha
def nodeS (s : Option (List Int)) (us:Bool) (nm:Int) (key sg pa ms:List Int):Option (List Int) :=
  Qc0 (Qb0 (rawS (rawS (rawS (numS (bif us then numS s 1 1 else numS (Qb0 s (Qb8 us nm key sg pa ms)) 0 1) nm 1) key) sg) pa) (risV ms)) ms
theorem Qhf (base gw:Nat) (s:Option (List Int)) (nm:Int) (key sg pa ms:List Int) (a_m:Option Addr) (c_m:Nat) (w:World) (hbw:base≤w.heap.size) (hbg:base≤gw) (h:WSt base gw s w) (hkl:key.length=32) (hgl:sg.length=32) (hpl:pa.length=32) (hkb:Qax key) (hgb:Qax sg) (hpb:Qax pa) (hml:ms.length≤1000000) (hm:RdK .i64 base ms (.slice a_m ms.length c_m) w):Calls Tryd.prog 79 #[.pointer (some ⟨gw,0,none⟩),.agg (cat [#[.bool true],#[.int .i64 nm],ints .u8 (key),ints .u8 (sg),ints .u8 (pa),#[.slice a_m ms.length c_m]])] w (fun e W=>e=.returned (.tuple #[])∧GW base gw w W∧WSt base gw (nodeS s true nm key sg pa ms) W):=by
  have hgw:=h.lt
  refine enter 39 [(0,.pointer (some ⟨gw,0,none⟩)),(1,.agg (cat [#[.bool true],#[.int .i64 nm],ints .u8 (key),ints .u8 (sg),ints .u8 (pa),#[.slice a_m ms.length c_m]]))] Tryd.func79 rfl rfl kj rfl ?_
  refine wp_seq_k fun K1 hK1=>?_
  refine Qad ?_
  refine Qal (cat [#[.bool true],#[.int .i64 nm],ints .u8 (key),ints .u8 (sg),ints .u8 (pa),#[.slice a_m ms.length c_m]]) 50 3 rfl kj kj fun g2 W1 l2 e1 r2_1=>?_
  have x1:GW base gw w W1:=GW.ext (GW.refl base gw w) e1
  have ws3:=WSt.ext h e1
  have b2:w.heap.size≤g2:=qT (GW.refl base gw w).size l2
  refine Qaj ?_
  refine hK1 _ _ ?_
  refine wp_seq_k fun K4 hK4=>?_
  refine wp_seq_k fun K5 hK5=>?_
  refine Qad ?_
  refine Qaa (.pointer (some ⟨g2,0,none⟩)) 4 rfl kj kj ?_
  refine Qaa (.bool true) 5 rfl kj (Qaf 4 _ g2 0 50 _ (.bool true) _ r2_1 rfl kj (Qah [] [#[.bool true]] [#[.int .i64 nm],ints .u8 (key),ints .u8 (sg),ints .u8 (pa),#[.slice a_m ms.length c_m]] 0 kj 0 _ rfl) kj) ?_
  refine Qaj ?_
  refine hK5 _ _ ?_
  refine cond_true kj ?_
  refine Qad ?_
  refine Qaa (.pointer (some ⟨gw,0,none⟩)) 6 rfl kj kj ?_
  refine Qa0 (fun v W'=>v=.tuple #[]∧GW base gw W1 W'∧WSt base gw (numS (s) 1 1) W') 84 #[.pointer (some ⟨gw,0,none⟩),.int .i64 1,.int .i64 1] 7 rfl kj kj ((Qd5 base gw _ 1 1 _ (qT hbw x1.size) ws3 (by decide)).mono (by rintro e w' ⟨rfl,h1,h2⟩; exact ⟨_,rfl,rfl,h1,h2⟩)) fun v6 W2 h6=>?_
  obtain ⟨rfl,q2,ws6⟩:=h6
  have x2:GW base gw w W2:=GW.trans x1 q2
  refine Qaj ?_
  refine hK4 _ _ ?_
  refine wp_seq_k fun K7 hK7=>?_
  refine Qad ?_
  refine Qaa (.pointer (some ⟨gw,0,none⟩)) 14 rfl kj kj ?_
  refine Qaa (.pointer (some ⟨g2,1,none⟩)) 15 rfl kj kj ?_
  have r2_2:=(GW.row q2 r2_1 (by decide) (Ne.symm (Nat.ne_of_lt (qL hgw b2))))
  refine Qaa (.int .i64 nm) 16 rfl kj (Qaf 3 _ g2 1 50 _ (.int .i64 nm) _ r2_2 rfl kj (Qah [#[.bool true]] [#[.int .i64 nm]] [ints .u8 (key),ints .u8 (sg),ints .u8 (pa),#[.slice a_m ms.length c_m]] 1 kj 0 _ rfl) kj) ?_
  refine Qa0 (fun v W'=>v=.tuple #[]∧GW base gw W2 W'∧WSt base gw (numS (numS (s) 1 1) nm 1) W') 84 #[.pointer (some ⟨gw,0,none⟩),.int .i64 nm,.int .i64 1] 17 rfl kj kj ((Qd5 base gw _ nm 1 _ (qT hbw x2.size) ws6 (by decide)).mono (by rintro e w' ⟨rfl,h1,h2⟩; exact ⟨_,rfl,rfl,h1,h2⟩)) fun v8 W3 h8=>?_
  obtain ⟨rfl,q3,ws8⟩:=h8
  have x3:GW base gw w W3:=GW.trans x2 q3
  refine Qaj ?_
  refine hK7 _ _ ?_
  refine wp_seq_k fun K9 hK9=>?_
  refine Qad ?_
  refine Qaa (.pointer (some ⟨gw,0,none⟩)) 18 rfl kj kj ?_
  refine Qaa (.pointer (some ⟨g2,2,none⟩)) 19 rfl kj kj ?_
  refine Qaa (.slice (some ⟨g2,2,none⟩) 32 32) 20 rfl kj kj ?_
  have r2_3:=(GW.row q3 r2_2 (by decide) (Ne.symm (Nat.ne_of_lt (qL hgw b2))))
  refine Qa0 (fun v W'=>v=.tuple #[]∧GW base gw W3 W'∧WSt base gw (rawS (numS (numS (s) 1 1) nm 1) key) W') 87 #[.pointer (some ⟨gw,0,none⟩),.slice (some ⟨g2,2,none⟩) 32 32] 21 rfl kj kj ((rawW base gw _ key _ _ (qT hbw x3.size) ws8 (by omega) hkb (fun W e=>(Qb5 2 hkl (ExtB.row e r2_3 (Ne.symm (Nat.ne_of_lt (qL hgw b2)))) (fun i hi=>Qbf [#[.bool true],#[.int .i64 nm]] [ints .u8 (sg),ints .u8 (pa),#[.slice a_m ms.length c_m]] key 2 i (2+i) kj rfl (by rw [hkl]; exact hi)) (Qa5 (ExtB.row e r2_3 (Ne.symm (Nat.ne_of_lt (qL hgw b2))))) (qR _) (by decide)))).mono (by rintro e w' ⟨rfl,h1,h2⟩; exact ⟨_,rfl,rfl,h1,h2⟩)) fun v10 W4 h10=>?_
  obtain ⟨rfl,q4,ws10⟩:=h10
  have x4:GW base gw w W4:=GW.trans x3 q4
  refine Qaj ?_
  refine hK9 _ _ ?_
  refine wp_seq_k fun K11 hK11=>?_
  refine Qad ?_
  refine Qaa (.pointer (some ⟨gw,0,none⟩)) 22 rfl kj kj ?_
  refine Qaa (.pointer (some ⟨g2,34,none⟩)) 23 rfl kj kj ?_
  refine Qaa (.slice (some ⟨g2,34,none⟩) 32 32) 24 rfl kj kj ?_
  have r2_4:=(GW.row q4 r2_3 (by decide) (Ne.symm (Nat.ne_of_lt (qL hgw b2))))
  refine Qa0 (fun v W'=>v=.tuple #[]∧GW base gw W4 W'∧WSt base gw (rawS (rawS (numS (numS (s) 1 1) nm 1) key) sg) W') 87 #[.pointer (some ⟨gw,0,none⟩),.slice (some ⟨g2,34,none⟩) 32 32] 25 rfl kj kj ((rawW base gw _ sg _ _ (qT hbw x4.size) ws10 (by omega) hgb (fun W e=>(Qb5 34 hgl (ExtB.row e r2_4 (Ne.symm (Nat.ne_of_lt (qL hgw b2)))) (fun i hi=>Qbf [#[.bool true],#[.int .i64 nm],ints .u8 (key)] [ints .u8 (pa),#[.slice a_m ms.length c_m]] sg 34 i (34+i) (by rw [Qab,Qab,Qab]; simp only [qS,cat,((Qac _ _).trans hkl)]; rfl) rfl (by rw [hgl]; exact hi)) (Qa5 (ExtB.row e r2_4 (Ne.symm (Nat.ne_of_lt (qL hgw b2))))) (qR _) (by decide)))).mono (by rintro e w' ⟨rfl,h1,h2⟩; exact ⟨_,rfl,rfl,h1,h2⟩)) fun v12 W5 h12=>?_
  obtain ⟨rfl,q5,ws12⟩:=h12
  have x5:GW base gw w W5:=GW.trans x4 q5
  refine Qaj ?_
  refine hK11 _ _ ?_
  refine wp_seq_k fun K13 hK13=>?_
  refine Qad ?_
  refine Qaa (.pointer (some ⟨gw,0,none⟩)) 26 rfl kj kj ?_
  refine Qaa (.pointer (some ⟨g2,66,none⟩)) 27 rfl kj kj ?_
  refine Qaa (.slice (some ⟨g2,66,none⟩) 32 32) 28 rfl kj kj ?_
  have r2_5:=(GW.row q5 r2_4 (by decide) (Ne.symm (Nat.ne_of_lt (qL hgw b2))))
  refine Qa0 (fun v W'=>v=.tuple #[]∧GW base gw W5 W'∧WSt base gw (rawS (rawS (rawS (numS (numS (s) 1 1) nm 1) key) sg) pa) W') 87 #[.pointer (some ⟨gw,0,none⟩),.slice (some ⟨g2,66,none⟩) 32 32] 29 rfl kj kj ((rawW base gw _ pa _ _ (qT hbw x5.size) ws12 (by omega) hpb (fun W e=>(Qb5 66 hpl (ExtB.row e r2_5 (Ne.symm (Nat.ne_of_lt (qL hgw b2)))) (fun i hi=>Qbf [#[.bool true],#[.int .i64 nm],ints .u8 (key),ints .u8 (sg)] [#[.slice a_m ms.length c_m]] pa 66 i (66+i) (by rw [Qab,Qab,Qab,Qab]; simp only [qS,cat,((Qac _ _).trans hgl),((Qac _ _).trans hkl)]; rfl) rfl (by rw [hpl]; exact hi)) (Qa5 (ExtB.row e r2_5 (Ne.symm (Nat.ne_of_lt (qL hgw b2))))) (qR _) (by decide)))).mono (by rintro e w' ⟨rfl,h1,h2⟩; exact ⟨_,rfl,rfl,h1,h2⟩)) fun v14 W6 h14=>?_
  obtain ⟨rfl,q6,ws14⟩:=h14
  have x6:GW base gw w W6:=GW.trans x5 q6
  refine Qaj ?_
  refine hK13 _ _ ?_
  refine wp_seq_k fun K15 hK15=>?_
  refine Qad ?_
  refine Qaa (.pointer (some ⟨gw,0,none⟩)) 30 rfl kj kj ?_
  refine Qaa (.pointer (some ⟨g2,98,none⟩)) 31 rfl kj kj ?_
  have r2_6:=(GW.row q6 r2_5 (by decide) (Ne.symm (Nat.ne_of_lt (qL hgw b2))))
  refine Qaa (.slice a_m ms.length c_m) 32 rfl kj (Qaf 24 _ g2 98 50 _ (.slice a_m ms.length c_m) _ r2_6 rfl kj (Qah [#[.bool true],#[.int .i64 nm],ints .u8 (key),ints .u8 (sg),ints .u8 (pa)] [#[.slice a_m ms.length c_m]] [] 98 (by rw [Qab,Qab,Qab,Qab,Qab]; simp only [qS,cat,((Qac _ _).trans hgl),((Qac _ _).trans hkl),((Qac _ _).trans hpl)]; rfl) 0 _ rfl) kj) ?_
  refine Qak (.bool (risV ms)) 88 #[.slice a_m ms.length c_m] 33 rfl kj kj (QhB ms _ _ _ _ hml (QfC hm x6 hbg)) fun W7 e7=>?_
  have x7:GW base gw w W7:=GW.ext x6 e7
  have ws16:=WSt.ext ws14 e7
  refine Qa0 (fun v W'=>v=.tuple #[]∧GW base gw W7 W'∧WSt base gw (Qb0 (rawS (rawS (rawS (numS (numS (s) 1 1) nm 1) key) sg) pa) (risV ms)) W') 85 #[.pointer (some ⟨gw,0,none⟩),.bool (risV ms)] 34 rfl kj kj ((Qhh base gw _ (risV ms) _ ws16).mono (by rintro e w' ⟨rfl,h1,h2⟩; exact ⟨_,rfl,rfl,h1,h2⟩)) fun v17 W8 h17=>?_
  obtain ⟨rfl,q8,ws17⟩:=h17
  have x8:GW base gw w W8:=GW.trans x7 q8
  refine Qaj ?_
  refine hK15 _ _ ?_
  refine Qad ?_
  refine Qaa (.pointer (some ⟨gw,0,none⟩)) 35 rfl kj kj ?_
  refine Qaa (.pointer (some ⟨g2,98,none⟩)) 36 rfl kj kj ?_
  have r2_7:=(Qae r2_6 e7)
  have r2_8:=(GW.row q8 r2_7 (by decide) (Ne.symm (Nat.ne_of_lt (qL hgw b2))))
  refine Qaa (.slice a_m ms.length c_m) 37 rfl kj (Qaf 24 _ g2 98 50 _ (.slice a_m ms.length c_m) _ r2_8 rfl kj (Qah [#[.bool true],#[.int .i64 nm],ints .u8 (key),ints .u8 (sg),ints .u8 (pa)] [#[.slice a_m ms.length c_m]] [] 98 (by rw [Qab,Qab,Qab,Qab,Qab]; simp only [qS,cat,((Qac _ _).trans hgl),((Qac _ _).trans hkl),((Qac _ _).trans hpl)]; rfl) 0 _ rfl) kj) ?_
  refine Qa0 (fun v W'=>v=.tuple #[]∧GW base gw W8 W'∧WSt base gw (Qc0 (Qb0 (rawS (rawS (rawS (numS (numS (s) 1 1) nm 1) key) sg) pa) (risV ms)) ms) W') 89 #[.pointer (some ⟨gw,0,none⟩),.slice a_m ms.length c_m,.func (.func 90) #[] #[]] 38 rfl kj kj ((QeL base gw _ ms _ _ _ (qT hbw x8.size) hbg ws17 hml (QfC hm x8 hbg)).mono (by rintro e w' ⟨rfl,h1,h2⟩; exact ⟨_,rfl,rfl,h1,h2⟩)) fun v18 W9 h18=>?_
  obtain ⟨rfl,q9,ws18⟩:=h18
  have x9:GW base gw w W9:=GW.trans x8 q9
  refine Qaj ?_
  repeat (first | with_reducible refine goX1 ?_ | with_reducible refine goX2 ?_ | with_reducible refine goX3 ?_)
  exact (show bodyPost _ _ _ .normal _ _ from end0 rfl ⟨rfl,x9,ws18⟩)
theorem Qgf (base gw:Nat) (s:Option (List Int)) (nm:Int) (key sg pa ms:List Int) (a_m:Option Addr) (c_m:Nat) (w:World) (hbw:base≤w.heap.size) (hbg:base≤gw) (h:WSt base gw s w) (hkl:key.length=32) (hgl:sg.length=32) (hpl:pa.length=32) (hkb:Qax key) (hgb:Qax sg) (hpb:Qax pa) (hml:ms.length≤1000000) (hm:RdK .i64 base ms (.slice a_m ms.length c_m) w):Calls Tryd.prog 79 #[.pointer (some ⟨gw,0,none⟩),.agg (cat [#[.bool false],#[.int .i64 nm],ints .u8 (key),ints .u8 (sg),ints .u8 (pa),#[.slice a_m ms.length c_m]])] w (fun e W=>e=.returned (.tuple #[])∧GW base gw w W∧WSt base gw (nodeS s false nm key sg pa ms) W):=by
  have hgw:=h.lt
  refine enter 39 [(0,.pointer (some ⟨gw,0,none⟩)),(1,.agg (cat [#[.bool false],#[.int .i64 nm],ints .u8 (key),ints .u8 (sg),ints .u8 (pa),#[.slice a_m ms.length c_m]]))] Tryd.func79 rfl rfl kj rfl ?_
  refine wp_seq_k fun K1 hK1=>?_
  refine Qad ?_
  refine Qal (cat [#[.bool false],#[.int .i64 nm],ints .u8 (key),ints .u8 (sg),ints .u8 (pa),#[.slice a_m ms.length c_m]]) 50 3 rfl kj kj fun g2 W1 l2 e1 r2_1=>?_
  have x1:GW base gw w W1:=GW.ext (GW.refl base gw w) e1
  have ws3:=WSt.ext h e1
  have b2:w.heap.size≤g2:=qT (GW.refl base gw w).size l2
  refine Qaj ?_
  refine hK1 _ _ ?_
  refine wp_seq_k fun K4 hK4=>?_
  refine wp_seq_k fun K5 hK5=>?_
  refine Qad ?_
  refine Qaa (.pointer (some ⟨g2,0,none⟩)) 4 rfl kj kj ?_
  refine Qaa (.bool false) 5 rfl kj (Qaf 4 _ g2 0 50 _ (.bool false) _ r2_1 rfl kj (Qah [] [#[.bool false]] [#[.int .i64 nm],ints .u8 (key),ints .u8 (sg),ints .u8 (pa),#[.slice a_m ms.length c_m]] 0 kj 0 _ rfl) kj) ?_
  refine Qaj ?_
  refine hK5 _ _ ?_
  refine cond_false kj ?_
  refine wp_seq_k fun K6 hK6=>?_
  refine Qad ?_
  refine Qaa (.pointer (some ⟨gw,0,none⟩)) 8 rfl kj kj ?_
  refine Qaa (.agg (cat [#[.bool false],#[.int .i64 nm],ints .u8 (key),ints .u8 (sg),ints .u8 (pa),#[.slice a_m ms.length c_m]])) 9 rfl kj (QaA 50 _ g2 50 _ _ r2_1 rfl kj kj (isz (n:=99) kj (by rw [Qab,Qab,Qab,Qab,Qab,Qab]; simp only [qS,cat,((Qac _ _).trans hgl),((Qac _ _).trans hkl),((Qac _ _).trans hpl)]; rfl))) ?_
  refine Qak (.bool (Qb8 false nm key sg pa ms)) 86 #[.agg (cat [#[.bool false],#[.int .i64 nm],ints .u8 (key),ints .u8 (sg),ints .u8 (pa),#[.slice a_m ms.length c_m]])] 10 rfl kj kj (Qmw false nm key sg pa ms _ _ _ hkl hgl hpl) fun W2 e2=>?_
  have x2:GW base gw w W2:=GW.ext x1 e2
  have ws7:=WSt.ext ws3 e2
  refine Qa0 (fun v W'=>v=.tuple #[]∧GW base gw W2 W'∧WSt base gw (Qb0 (s) (Qb8 false nm key sg pa ms)) W') 85 #[.pointer (some ⟨gw,0,none⟩),.bool (Qb8 false nm key sg pa ms)] 11 rfl kj kj ((Qhh base gw _ (Qb8 false nm key sg pa ms) _ ws7).mono (by rintro e w' ⟨rfl,h1,h2⟩; exact ⟨_,rfl,rfl,h1,h2⟩)) fun v8 W3 h8=>?_
  obtain ⟨rfl,q3,ws8⟩:=h8
  have x3:GW base gw w W3:=GW.trans x2 q3
  refine Qaj ?_
  refine hK6 _ _ ?_
  refine Qad ?_
  refine Qaa (.pointer (some ⟨gw,0,none⟩)) 12 rfl kj kj ?_
  refine Qa0 (fun v W'=>v=.tuple #[]∧GW base gw W3 W'∧WSt base gw (numS (Qb0 (s) (Qb8 false nm key sg pa ms)) 0 1) W') 84 #[.pointer (some ⟨gw,0,none⟩),.int .i64 0,.int .i64 1] 13 rfl kj kj ((Qd5 base gw _ 0 1 _ (qT hbw x3.size) ws8 (by decide)).mono (by rintro e w' ⟨rfl,h1,h2⟩; exact ⟨_,rfl,rfl,h1,h2⟩)) fun v9 W4 h9=>?_
  obtain ⟨rfl,q4,ws9⟩:=h9
  have x4:GW base gw w W4:=GW.trans x3 q4
  refine Qaj ?_
  refine hK4 _ _ ?_
  refine wp_seq_k fun K10 hK10=>?_
  refine Qad ?_
  refine Qaa (.pointer (some ⟨gw,0,none⟩)) 14 rfl kj kj ?_
  refine Qaa (.pointer (some ⟨g2,1,none⟩)) 15 rfl kj kj ?_
  have r2_2:=(Qae r2_1 e2)
  have r2_3:=(GW.row q3 r2_2 (by decide) (Ne.symm (Nat.ne_of_lt (qL hgw b2))))
  have r2_4:=(GW.row q4 r2_3 (by decide) (Ne.symm (Nat.ne_of_lt (qL hgw b2))))
  refine Qaa (.int .i64 nm) 16 rfl kj (Qaf 3 _ g2 1 50 _ (.int .i64 nm) _ r2_4 rfl kj (Qah [#[.bool false]] [#[.int .i64 nm]] [ints .u8 (key),ints .u8 (sg),ints .u8 (pa),#[.slice a_m ms.length c_m]] 1 kj 0 _ rfl) kj) ?_
  refine Qa0 (fun v W'=>v=.tuple #[]∧GW base gw W4 W'∧WSt base gw (numS (numS (Qb0 (s) (Qb8 false nm key sg pa ms)) 0 1) nm 1) W') 84 #[.pointer (some ⟨gw,0,none⟩),.int .i64 nm,.int .i64 1] 17 rfl kj kj ((Qd5 base gw _ nm 1 _ (qT hbw x4.size) ws9 (by decide)).mono (by rintro e w' ⟨rfl,h1,h2⟩; exact ⟨_,rfl,rfl,h1,h2⟩)) fun v11 W5 h11=>?_
  obtain ⟨rfl,q5,ws11⟩:=h11
  have x5:GW base gw w W5:=GW.trans x4 q5
  refine Qaj ?_
  refine hK10 _ _ ?_
  refine wp_seq_k fun K12 hK12=>?_
  refine Qad ?_
  refine Qaa (.pointer (some ⟨gw,0,none⟩)) 18 rfl kj kj ?_
  refine Qaa (.pointer (some ⟨g2,2,none⟩)) 19 rfl kj kj ?_
  refine Qaa (.slice (some ⟨g2,2,none⟩) 32 32) 20 rfl kj kj ?_
  have r2_5:=(GW.row q5 r2_4 (by decide) (Ne.symm (Nat.ne_of_lt (qL hgw b2))))
  refine Qa0 (fun v W'=>v=.tuple #[]∧GW base gw W5 W'∧WSt base gw (rawS (numS (numS (Qb0 (s) (Qb8 false nm key sg pa ms)) 0 1) nm 1) key) W') 87 #[.pointer (some ⟨gw,0,none⟩),.slice (some ⟨g2,2,none⟩) 32 32] 21 rfl kj kj ((rawW base gw _ key _ _ (qT hbw x5.size) ws11 (by omega) hkb (fun W e=>(Qb5 2 hkl (ExtB.row e r2_5 (Ne.symm (Nat.ne_of_lt (qL hgw b2)))) (fun i hi=>Qbf [#[.bool false],#[.int .i64 nm]] [ints .u8 (sg),ints .u8 (pa),#[.slice a_m ms.length c_m]] key 2 i (2+i) kj rfl (by rw [hkl]; exact hi)) (Qa5 (ExtB.row e r2_5 (Ne.symm (Nat.ne_of_lt (qL hgw b2))))) (qR _) (by decide)))).mono (by rintro e w' ⟨rfl,h1,h2⟩; exact ⟨_,rfl,rfl,h1,h2⟩)) fun v13 W6 h13=>?_
  obtain ⟨rfl,q6,ws13⟩:=h13
  have x6:GW base gw w W6:=GW.trans x5 q6
  refine Qaj ?_
  refine hK12 _ _ ?_
  refine wp_seq_k fun K14 hK14=>?_
  refine Qad ?_
  refine Qaa (.pointer (some ⟨gw,0,none⟩)) 22 rfl kj kj ?_
  refine Qaa (.pointer (some ⟨g2,34,none⟩)) 23 rfl kj kj ?_
  refine Qaa (.slice (some ⟨g2,34,none⟩) 32 32) 24 rfl kj kj ?_
  have r2_6:=(GW.row q6 r2_5 (by decide) (Ne.symm (Nat.ne_of_lt (qL hgw b2))))
  refine Qa0 (fun v W'=>v=.tuple #[]∧GW base gw W6 W'∧WSt base gw (rawS (rawS (numS (numS (Qb0 (s) (Qb8 false nm key sg pa ms)) 0 1) nm 1) key) sg) W') 87 #[.pointer (some ⟨gw,0,none⟩),.slice (some ⟨g2,34,none⟩) 32 32] 25 rfl kj kj ((rawW base gw _ sg _ _ (qT hbw x6.size) ws13 (by omega) hgb (fun W e=>(Qb5 34 hgl (ExtB.row e r2_6 (Ne.symm (Nat.ne_of_lt (qL hgw b2)))) (fun i hi=>Qbf [#[.bool false],#[.int .i64 nm],ints .u8 (key)] [ints .u8 (pa),#[.slice a_m ms.length c_m]] sg 34 i (34+i) (by rw [Qab,Qab,Qab]; simp only [qS,cat,((Qac _ _).trans hkl)]; rfl) rfl (by rw [hgl]; exact hi)) (Qa5 (ExtB.row e r2_6 (Ne.symm (Nat.ne_of_lt (qL hgw b2))))) (qR _) (by decide)))).mono (by rintro e w' ⟨rfl,h1,h2⟩; exact ⟨_,rfl,rfl,h1,h2⟩)) fun v15 W7 h15=>?_
  obtain ⟨rfl,q7,ws15⟩:=h15
  have x7:GW base gw w W7:=GW.trans x6 q7
  refine Qaj ?_
  refine hK14 _ _ ?_
  refine wp_seq_k fun K16 hK16=>?_
  refine Qad ?_
  refine Qaa (.pointer (some ⟨gw,0,none⟩)) 26 rfl kj kj ?_
  refine Qaa (.pointer (some ⟨g2,66,none⟩)) 27 rfl kj kj ?_
  refine Qaa (.slice (some ⟨g2,66,none⟩) 32 32) 28 rfl kj kj ?_
  have r2_7:=(GW.row q7 r2_6 (by decide) (Ne.symm (Nat.ne_of_lt (qL hgw b2))))
  refine Qa0 (fun v W'=>v=.tuple #[]∧GW base gw W7 W'∧WSt base gw (rawS (rawS (rawS (numS (numS (Qb0 (s) (Qb8 false nm key sg pa ms)) 0 1) nm 1) key) sg) pa) W') 87 #[.pointer (some ⟨gw,0,none⟩),.slice (some ⟨g2,66,none⟩) 32 32] 29 rfl kj kj ((rawW base gw _ pa _ _ (qT hbw x7.size) ws15 (by omega) hpb (fun W e=>(Qb5 66 hpl (ExtB.row e r2_7 (Ne.symm (Nat.ne_of_lt (qL hgw b2)))) (fun i hi=>Qbf [#[.bool false],#[.int .i64 nm],ints .u8 (key),ints .u8 (sg)] [#[.slice a_m ms.length c_m]] pa 66 i (66+i) (by rw [Qab,Qab,Qab,Qab]; simp only [qS,cat,((Qac _ _).trans hgl),((Qac _ _).trans hkl)]; rfl) rfl (by rw [hpl]; exact hi)) (Qa5 (ExtB.row e r2_7 (Ne.symm (Nat.ne_of_lt (qL hgw b2))))) (qR _) (by decide)))).mono (by rintro e w' ⟨rfl,h1,h2⟩; exact ⟨_,rfl,rfl,h1,h2⟩)) fun v17 W8 h17=>?_
  obtain ⟨rfl,q8,ws17⟩:=h17
  have x8:GW base gw w W8:=GW.trans x7 q8
  refine Qaj ?_
  refine hK16 _ _ ?_
  refine wp_seq_k fun K18 hK18=>?_
  refine Qad ?_
  refine Qaa (.pointer (some ⟨gw,0,none⟩)) 30 rfl kj kj ?_
  refine Qaa (.pointer (some ⟨g2,98,none⟩)) 31 rfl kj kj ?_
  have r2_8:=(GW.row q8 r2_7 (by decide) (Ne.symm (Nat.ne_of_lt (qL hgw b2))))
  refine Qaa (.slice a_m ms.length c_m) 32 rfl kj (Qaf 24 _ g2 98 50 _ (.slice a_m ms.length c_m) _ r2_8 rfl kj (Qah [#[.bool false],#[.int .i64 nm],ints .u8 (key),ints .u8 (sg),ints .u8 (pa)] [#[.slice a_m ms.length c_m]] [] 98 (by rw [Qab,Qab,Qab,Qab,Qab]; simp only [qS,cat,((Qac _ _).trans hgl),((Qac _ _).trans hkl),((Qac _ _).trans hpl)]; rfl) 0 _ rfl) kj) ?_
  refine Qak (.bool (risV ms)) 88 #[.slice a_m ms.length c_m] 33 rfl kj kj (QhB ms _ _ _ _ hml (QfC hm x8 hbg)) fun W9 e9=>?_
  have x9:GW base gw w W9:=GW.ext x8 e9
  have ws19:=WSt.ext ws17 e9
  refine Qa0 (fun v W'=>v=.tuple #[]∧GW base gw W9 W'∧WSt base gw (Qb0 (rawS (rawS (rawS (numS (numS (Qb0 (s) (Qb8 false nm key sg pa ms)) 0 1) nm 1) key) sg) pa) (risV ms)) W') 85 #[.pointer (some ⟨gw,0,none⟩),.bool (risV ms)] 34 rfl kj kj ((Qhh base gw _ (risV ms) _ ws19).mono (by rintro e w' ⟨rfl,h1,h2⟩; exact ⟨_,rfl,rfl,h1,h2⟩)) fun v20 W10 h20=>?_
  obtain ⟨rfl,q10,ws20⟩:=h20
  have x10:GW base gw w W10:=GW.trans x9 q10
  refine Qaj ?_
  refine hK18 _ _ ?_
  refine Qad ?_
  refine Qaa (.pointer (some ⟨gw,0,none⟩)) 35 rfl kj kj ?_
  refine Qaa (.pointer (some ⟨g2,98,none⟩)) 36 rfl kj kj ?_
  have r2_9:=(Qae r2_8 e9)
  have r2_10:=(GW.row q10 r2_9 (by decide) (Ne.symm (Nat.ne_of_lt (qL hgw b2))))
  refine Qaa (.slice a_m ms.length c_m) 37 rfl kj (Qaf 24 _ g2 98 50 _ (.slice a_m ms.length c_m) _ r2_10 rfl kj (Qah [#[.bool false],#[.int .i64 nm],ints .u8 (key),ints .u8 (sg),ints .u8 (pa)] [#[.slice a_m ms.length c_m]] [] 98 (by rw [Qab,Qab,Qab,Qab,Qab]; simp only [qS,cat,((Qac _ _).trans hgl),((Qac _ _).trans hkl),((Qac _ _).trans hpl)]; rfl) 0 _ rfl) kj) ?_
  refine Qa0 (fun v W'=>v=.tuple #[]∧GW base gw W10 W'∧WSt base gw (Qc0 (Qb0 (rawS (rawS (rawS (numS (numS (Qb0 (s) (Qb8 false nm key sg pa ms)) 0 1) nm 1) key) sg) pa) (risV ms)) ms) W') 89 #[.pointer (some ⟨gw,0,none⟩),.slice a_m ms.length c_m,.func (.func 90) #[] #[]] 38 rfl kj kj ((QeL base gw _ ms _ _ _ (qT hbw x10.size) hbg ws20 hml (QfC hm x10 hbg)).mono (by rintro e w' ⟨rfl,h1,h2⟩; exact ⟨_,rfl,rfl,h1,h2⟩)) fun v21 W11 h21=>?_
  obtain ⟨rfl,q11,ws21⟩:=h21
  have x11:GW base gw w W11:=GW.trans x10 q11
  refine Qaj ?_
  repeat (first | with_reducible refine goX1 ?_ | with_reducible refine goX2 ?_ | with_reducible refine goX3 ?_)
  exact (show bodyPost _ _ _ .normal _ _ from end0 rfl ⟨rfl,x11,ws21⟩)
theorem QmE (base gw:Nat) (s:Option (List Int)) (us:Bool) (nm:Int) (key sg pa ms:List Int) (a_m:Option Addr) (c_m:Nat) (w:World) (hbw:base≤w.heap.size) (hbg:base≤gw) (h:WSt base gw s w) (hkl:key.length=32) (hgl:sg.length=32) (hpl:pa.length=32) (hkb:Qax key) (hgb:Qax sg) (hpb:Qax pa) (hml:ms.length≤1000000) (hm:RdK .i64 base ms (.slice a_m ms.length c_m) w):Calls Tryd.prog 79 #[.pointer (some ⟨gw,0,none⟩),.agg (cat [#[.bool us],#[.int .i64 nm],ints .u8 (key),ints .u8 (sg),ints .u8 (pa),#[.slice a_m ms.length c_m]])] w (fun e W=>e=.returned (.tuple #[])∧GW base gw w W∧WSt base gw (nodeS s us nm key sg pa ms) W):=by
  cases us with
  | true=>exact Qhf base gw s nm key sg pa ms a_m c_m w hbw hbg h hkl hgl hpl hkb hgb hpb hml hm
  | false=>exact Qgf base gw s nm key sg pa ms a_m c_m w hbw hbg h hkl hgl hpl hkb hgb hpb hml hm
end Go.Proofs.YthfkppjajmjpnaaDoor.Wr
end
section
namespace Go.Proofs.YthfkppjajmjpnaaDoor.Wr
open Go Go.RowKit
open Rely Auto Own Sha
theorem QkF (us : Bool) (nm:Int) (key sg pa ms:List Int) (a_m:Option Addr) (c_m:Nat) (w:World) (hkl:key.length=32) (hgl:sg.length=32) (hpl:pa.length=32) (hkb:Qax key) (hgb:Qax sg) (hpb:Qax pa) (hml:ms.length≤1000000) (hm:RdK .i64 w.heap.size ms (.slice a_m ms.length c_m) w):Calls Tryd.prog 78 #[.agg (cat [#[.bool us],#[.int .i64 nm],ints .u8 (key),ints .u8 (sg),ints .u8 (pa),#[.slice a_m ms.length c_m]]),.func (.func 79) #[] #[]] w (Qbs w (PutR w.heap.size (nodeS (some []) us nm key sg pa ms))):=by
 refine enter 22 [(0,.agg (cat [#[.bool us],#[.int .i64 nm],ints .u8 (key),ints .u8 (sg),ints .u8 (pa),#[.slice a_m ms.length c_m]])),(1,.func (.func 79) #[] #[])] Tryd.func78 rfl rfl kj rfl ?_
 refine wp_seq_k fun K1 hK1=>?_
 refine Qad ?_
 refine Qal (cat [#[.bool us],#[.int .i64 nm],ints .u8 (key),ints .u8 (sg),ints .u8 (pa),#[.slice a_m ms.length c_m]]) 50 2 rfl kj kj fun g2 W1 l2 e1 r2_1=>?_
 have x1:Ext w W1:=Ext.tr (Rely.Ext.refl w) e1
 have b2:w.heap.size≤g2:=qT (Rely.Ext.refl w).size l2
 refine Qaa (.slice none 0 0) 4 rfl kj kj ?_
 refine Qaa (.nilIface) 5 rfl kj kj ?_
 refine Qaj ?_
 refine hK1 _ _ ?_
 refine wp_seq_k fun K3 hK3=>?_
 refine Qad ?_
 refine Qaa (.agg (cat [#[.slice none 0 0],#[.bool false]])) 7 rfl kj kj ?_
 refine Qal (cat [#[.slice none 0 0],#[.bool false]]) 111 8 rfl kj kj fun g4 W2 l4 e2 r4_2=>?_
 have x2:Ext w W2:=Ext.tr x1 e2
 have b4:w.heap.size≤g4:=qT x1.size l4
 refine Qaa (.pointer (some ⟨g4,0,none⟩)) 6 rfl kj kj ?_
 refine Qaj ?_
 refine hK3 _ _ ?_
 refine wp_seq_k fun K5 hK5=>?_
 refine Qad ?_
 refine Qaa (.func (.func 79) #[] #[]) 9 rfl kj kj ?_
 refine Qaa (.pointer (some ⟨g4,0,none⟩)) 10 rfl kj kj ?_
 have r2_2:=(Qae r2_1 e2)
 refine Qaa (.agg (cat [#[.bool us],#[.int .i64 nm],ints .u8 (key),ints .u8 (sg),ints .u8 (pa),#[.slice a_m ms.length c_m]])) 11 rfl kj (QaA 50 _ g2 50 _ _ r2_2 rfl kj kj (isz (n:=99) kj (by rw [Qab,Qab,Qab,Qab,Qab,Qab]; simp only [qS,cat,((Qac _ _).trans hgl),((Qac _ _).trans hkl),((Qac _ _).trans hpl)]; rfl))) ?_
 refine Qa0 (fun v W'=>v=.tuple #[]∧GW W1.heap.size g4 W2 W'∧WSt W1.heap.size g4 (nodeS (some []) us nm key sg pa ms) W') 79 #[.pointer (some ⟨g4,0,none⟩),.agg (cat [#[.bool us],#[.int .i64 nm],ints .u8 (key),ints .u8 (sg),ints .u8 (pa),#[.slice a_m ms.length c_m]])] 12 rfl kj kj ((QmE W1.heap.size g4 (some []) us nm key sg pa ms a_m c_m _ (qT (qR _) e2.size) l4 ⟨_,[],false,r4_2,QbM .u8 5 _ _,Nat.zero_le _,(fun x hx=>by cases hx),rfl⟩ hkl hgl hpl hkb hgb hpb hml (RdK.more (RdK.ext hm x2) (qT (qR _) e1.size))).mono (by rintro e w' ⟨rfl,h1,h2⟩; exact ⟨_,rfl,rfl,h1,h2⟩)) fun v6 W3 h6=>?_
 obtain ⟨rfl,q3,u,xs,bad,rb3,ho,-,-,hS⟩:=h6
 have x3:Ext w W3:=GW.back x2 q3 (qT (qR _) e1.size) b4
 obtain ⟨au,cu,rfl,-⟩:=id (OwnN.rd ho)
 refine Qaj ?_
 refine hK5 _ _ ?_
 refine wp_seq_k fun K7 hK7=>?_
 refine wp_seq_k fun K8 hK8=>?_
 refine Qad ?_
 refine Qaa (.pointer (some ⟨g4,0,none⟩)) 13 rfl kj kj ?_
 refine Qaa (.pointer (some ⟨g4,0,none⟩)) 14 rfl kj kj ?_
 refine Qaa (.pointer (some ⟨g4,1,none⟩)) 15 rfl kj kj ?_
 refine Qaa (.bool bad) 16 rfl kj (Qaf 4 _ g4 1 111 _ (.bool bad) _ rb3 rfl kj kj kj) ?_
 refine Qaj ?_
 refine hK8 _ _ ?_
 refine Qaq (t:=bad) kj (fun c9=>?_) (fun c9=>?_)
 ·skip
  refine wp_seq_k fun K10 hK10=>?_
  refine Qad ?_
  refine Qaa (.iface 68 (.int .i64 3)) 17 rfl kj kj ?_
  refine Qaa (.slice none 0 0) 4 rfl kj kj ?_
  refine Qaa (.iface 68 (.int .i64 3)) 5 rfl kj kj ?_
  refine Qaj ?_
  refine hK10 _ _ ?_
  refine wp_ret ?_
  repeat (first | with_reducible refine goR1 ?_ | with_reducible refine goR2 ?_)
  exact (show bodyPost _ _ _ .ret _ _ from ret2 (.slice none 0 0) (.iface 68 (.int .i64 3)) rfl (Qar kj) (Qar kj) ⟨_,rfl,x3,by rw [hS,c9]; exact rfl⟩)
 ·skip
  refine wp_skip ?_
  refine hK7 _ _ ?_
  refine wp_seq_k fun K11 hK11=>?_
  refine Qad ?_
  refine Qaa (.pointer (some ⟨g4,0,none⟩)) 18 rfl kj kj ?_
  refine Qaa (.pointer (some ⟨g4,0,none⟩)) 19 rfl kj kj ?_
  refine Qaa (.pointer (some ⟨g4,0,none⟩)) 20 rfl kj kj ?_
  refine Qaa (.slice au xs.length cu) 21 rfl kj (Qaf 59 _ g4 0 111 _ (.slice au xs.length cu) _ rb3 rfl kj kj kj) ?_
  refine Qaa (.slice au xs.length cu) 4 rfl kj kj ?_
  refine Qaa (.nilIface) 5 rfl kj kj ?_
  refine Qaj ?_
  refine hK11 _ _ ?_
  refine wp_ret ?_
  repeat (first | with_reducible refine goR1 ?_ | with_reducible refine goR2 ?_)
  exact (show bodyPost _ _ _ .ret _ _ from ret2 (.slice au xs.length cu) (.nilIface) rfl (Qar kj) (Qar kj) ⟨_,rfl,x3,by rw [hS,c9]; exact ⟨_,rfl,OwnN.base (qT (qR _) e1.size) ho⟩⟩)
theorem PutNode_S (us : Bool) (nm:Int) (key sg pa ms:List Int) (a_m:Option Addr) (c_m:Nat) (w:World) (hkl:key.length=32) (hgl:sg.length=32) (hpl:pa.length=32) (hkb:Qax key) (hgb:Qax sg) (hpb:Qax pa) (hml:ms.length≤1000000) (hm:RdK .i64 w.heap.size ms (.slice a_m ms.length c_m) w) (xs:List Int) (hS:nodeS (some []) us nm key sg pa ms=some xs):Calls Tryd.prog 70 #[.agg (cat [#[.bool us],#[.int .i64 nm],ints .u8 (key),ints .u8 (sg),ints .u8 (pa),#[.slice a_m ms.length c_m]])] w (Qbs w (PutR w.heap.size (some xs))):=by
  refine enter 8 [(0,.agg (cat [#[.bool us],#[.int .i64 nm],ints .u8 (key),ints .u8 (sg),ints .u8 (pa),#[.slice a_m ms.length c_m]]))] Tryd.func70 rfl rfl kj rfl ?_
  refine wp_seq_k fun K1 hK1=>?_
  refine Qad ?_
  refine Qal (cat [#[.bool us],#[.int .i64 nm],ints .u8 (key),ints .u8 (sg),ints .u8 (pa),#[.slice a_m ms.length c_m]]) 50 1 rfl kj kj fun g2 W1 l2 e1 r2_1=>?_
  have x1:Ext w W1:=Ext.tr (Rely.Ext.refl w) e1
  have b2:w.heap.size≤g2:=qT (Rely.Ext.refl w).size l2
  refine Qaa (.slice none 0 0) 2 rfl kj kj ?_
  refine Qaa (.nilIface) 3 rfl kj kj ?_
  refine Qaj ?_
  refine hK1 _ _ ?_
  refine wp_seq_k fun K3 hK3=>?_
  refine Qad ?_
  refine Qaa (.agg (cat [#[.bool us],#[.int .i64 nm],ints .u8 (key),ints .u8 (sg),ints .u8 (pa),#[.slice a_m ms.length c_m]])) 4 rfl kj (QaA 50 _ g2 50 _ _ r2_1 rfl kj kj (isz (n:=99) kj (by rw [Qab,Qab,Qab,Qab,Qab,Qab]; simp only [qS,cat,((Qac _ _).trans hgl),((Qac _ _).trans hkl),((Qac _ _).trans hpl)]; rfl))) ?_
  refine Qa0 (fun v W'=>(PutR W1.heap.size (nodeS (some []) us nm key sg pa ms)) v W'∧Ext W1 W') 78 #[.agg (cat [#[.bool us],#[.int .i64 nm],ints .u8 (key),ints .u8 (sg),ints .u8 (pa),#[.slice a_m ms.length c_m]]),.func (.func 79) #[] #[]] 5 rfl kj kj ((QkF us nm key sg pa ms a_m c_m _ hkl hgl hpl hkb hgb hpb hml (RdK.here (RdK.ext hm x1))).mono (by rintro e w' ⟨v,rfl,e1,hv⟩; exact ⟨v,rfl,hv,e1⟩)) fun vv4 W2 hh4=>?_
  obtain ⟨hv4,e2⟩:=hh4
  have x2:Ext w W2:=Ext.tr x1 e2
  rw [hS] at hv4
  obtain ⟨u5_,rfl,hu5_⟩:=hv4
  obtain ⟨a5_,c5_,rfl,-⟩:=id (OwnN.rd hu5_)
  refine Qaa (.slice a5_ ((xs).length) c5_) 6 rfl kj kj ?_
  refine Qaa (.nilIface) 7 rfl kj kj ?_
  refine Qaa (.slice a5_ ((xs).length) c5_) 2 rfl kj kj ?_
  refine Qaa (.nilIface) 3 rfl kj kj ?_
  refine Qaj ?_
  refine hK3 _ _ ?_
  refine wp_ret ?_
  repeat (first | with_reducible refine goR1 ?_ | with_reducible refine goR2 ?_)
  exact (show bodyPost _ _ _ .ret _ _ from ret2 (.slice a5_ ((xs).length) c5_) (.nilIface) rfl (Qar kj) (Qar kj) ⟨_,rfl,x2,_,rfl,OwnN.base x1.size hu5_⟩)
end Go.Proofs.YthfkppjajmjpnaaDoor.Wr
end
section
namespace Go.Proofs.YthfkppjajmjpnaaDoor.Wr
open Go Go.RowKit
open Rely Auto Own Sha
open Wk
def goodN (ms : List Int):Nat→Bool
  | 0=>true
  | n+1=>goodN ms n&&(inB (nth ms n) 31&&((n==0) || decide (nth ms (n-1)<nth ms n)))
def goodV (us : Bool) (nm:Int) (key sg pa ms:List Int):Bool:=inB nm 255&&decide (ms.length≤32)&&(goodN ms ms.length&&(us || Qb8 us nm key sg pa ms))
end Go.Proofs.YthfkppjajmjpnaaDoor.Wr
end
section
namespace Go.Proofs.YthfkppjajmjpnaaDoor.Wr
open Go Go.RowKit
open Rely Auto Own Sha
open Wk
section
variable {P : Program} {ops : Array Oper} {Q : Exit → Act → World → Prop} {o : Oper} {N : Nat} {L : Env} {w V : World} {ds : List Deferred} {fuel : Nat} {listed : Array Bool}
theorem wo_appendT {k : IntKind} {T:TypeId} (b:Nat) (s x:Operand) (t:TypeId) (ho2:o.op=.call { callee:=.builtin .append,args:=#[s,x],argTypes:=#[t,t] })
    (ht:P.underlying t=some (.slice T)) (hi:(P.info? T).map (fun i=>(i.zero,i.size,i.bytes))=some (some (.int k 0),1,b)) (hb8:b≤8) (d:Nat) (hd:o.dst=some d) (j:Nat) (ho:ops[j]? = some o) (hg:Qby ops o N L=some true) {B:Nat} {v y:Value} {xs ys:List Int}
    (hs:Rely.look (envN N L) s=v) (hx:Rely.look (envN N L) x=y)
    (h:OwnN k T V.heap.size xs v w) (hy:RdK k B ys y w) (hn:xs.length+ys.length≤1000000000) (hV:Ext V w)
    (kk:∀ (u:Value) (W':World),OwnN k T V.heap.size (xs++ys) u W'→Ext V W'→Below V.heap.size w W'→WB P ops Q (fun _=>True) fuel (listed.setIfInBounds j true) (Qa3 ds N ((d,u)::L)) W'):WO P ops Q (fun _=>True) j fuel listed (Qa3 ds N L) w:=by
  obtain ⟨v',W',h1,h2,h3,h4⟩:=QdW (ρ:=Rely.look (envN N L)) (o:=o) (W:=w) s x t ho2 ht hi hb8 hs hx h hy hn hV.size
  exact Qj0 ho (fun u W'=>OwnN k T V.heap.size (xs++ys) u W'∧Ext V W'∧Below V.heap.size w W') d hd hg ⟨v',W',h1,h2,Qgk hV h h3,⟨h3.os,h3.tape,h3.output,h3.size,fun i hi=>h3.block i (qL hi hV.size) (fun q=>by have:=h.ge q.symm; omega)⟩⟩ (fun _ _ _=>trivial) fun u W' h=>kk u W' h.1 h.2.1 h.2.2
end
def nodeH (us : Bool) (nm:Int) (key sg pa:List Int) (n:Nat):List Int:=[bif us then 1 else 0,byV nm 0]++key++sg++pa++[byV ((n:Nat):Int) 0]
def nodeV (us : Bool) (nm:Int) (key sg pa ms:List Int):List Int:=nodeH us nm key sg pa ms.length++ms.map fun m=>byV m 0
theorem QeM (H ms:List Int) (i:Nat) (h:i<ms.length):H++(ms.take (i+1)).map (fun m=>byV m 0)=H++(ms.take i).map (fun m=>byV m 0)++[byV (nth ms i) 0]:=by
  have e:ms.take (i+1)=ms.take i++[nth ms i]:=by
    rw [List.take_add_one,List.getElem?_eq_getElem h]
    unfold nth
    rw [List.getD_eq_getElem?_getD,List.getElem?_eq_getElem h]
    rfl
  rw [e,List.map_append,←List.append_assoc]
  rfl
theorem Qhc (nm : Int) (key sg pa ms:List Int) (a_m:Option Addr) (c_m:Nat) (w:World) (hkl:key.length=32) (hgl:sg.length=32) (hpl:pa.length=32) (hml:ms.length≤1000000) (hm:RdK .i64 w.heap.size ms (.slice a_m ms.length c_m) w):Calls Tryd.prog 57 #[.agg (cat [#[.bool true],#[.int .i64 nm],ints .u8 (key),ints .u8 (sg),ints .u8 (pa),#[.slice a_m ms.length c_m]])] w (Qbs w (OwnN .u8 5 w.heap.size (nodeV true nm key sg pa ms))):=by
 refine enter 47 [(0,.agg (cat [#[.bool true],#[.int .i64 nm],ints .u8 (key),ints .u8 (sg),ints .u8 (pa),#[.slice a_m ms.length c_m]]))] Tryd.func57 rfl rfl kj rfl ?_
 refine wp_seq_k fun K1 hK1=>?_
 refine Qad ?_
 refine Qal (cat [#[.bool true],#[.int .i64 nm],ints .u8 (key),ints .u8 (sg),ints .u8 (pa),#[.slice a_m ms.length c_m]]) 50 1 rfl kj kj fun g2 W1 l2 e1 r2_1=>?_
 have x1:Ext w W1:=Ext.tr (Rely.Ext.refl w) e1
 have b2:w.heap.size≤g2:=qT (Rely.Ext.refl w).size l2
 refine Qaa (.slice none 0 0) 2 rfl kj kj ?_
 refine Qaj ?_
 refine hK1 _ _ ?_
 refine wp_seq_k fun K3 hK3=>?_
 refine Qad ?_
 refine Qaa (.pointer (some ⟨g2,1,none⟩)) 5 rfl kj kj ?_
 refine Qaa (.int .i64 nm) 6 rfl kj (Qaf 3 _ g2 1 50 _ (.int .i64 nm) _ r2_1 rfl kj (Qah [#[.bool true]] [#[.int .i64 nm]] [ints .u8 (key),ints .u8 (sg),ints .u8 (pa),#[.slice a_m ms.length c_m]] 1 kj 0 _ rfl) kj) ?_
 refine Qaa (.int .u8 (byV nm 0)) 7 rfl kj (Qag (u:=.int .u8 (IntKind.u8.wrap (nm))) kj (congrArg (Value.int .u8) (byV0 nm))) ?_
 refine Qa9 (ints .u8 ([0,(byV nm 0)])) 5 2 8 rfl kj kj fun g4 W2 l4 e2 r4_2=>?_
 have x2:Ext w W2:=Ext.tr x1 e2
 have b4:w.heap.size≤g4:=qT x1.size l4
 refine Qaa (.slice (some ⟨g4,0,none⟩) 2 2) 3 rfl kj kj ?_
 refine Qaj ?_
 refine hK3 _ _ ?_
 refine wp_seq_k fun K5 hK5=>?_
 refine wp_seq_k fun K6 hK6=>?_
 refine Qad ?_
 refine Qaa (.pointer (some ⟨g2,0,none⟩)) 9 rfl kj kj ?_
 have r2_2:=(Qae r2_1 e2)
 refine Qaa (.bool true) 10 rfl kj (Qaf 4 _ g2 0 50 _ (.bool true) _ r2_2 rfl kj (Qah [] [#[.bool true]] [#[.int .i64 nm],ints .u8 (key),ints .u8 (sg),ints .u8 (pa),#[.slice a_m ms.length c_m]] 0 kj 0 _ rfl) kj) ?_
 refine Qaj ?_
 refine hK6 _ _ ?_
 refine cond_true kj ?_
 refine Qad ?_
 refine Qaa (.slice (some ⟨g4,0,none⟩) 2 2) 11 rfl kj kj ?_
 refine Qaa (.pointer (some ⟨g4,0,none⟩)) 12 rfl kj (QbI 59 _ _ .i64 (0) g4 2 2 5 rfl kj kj kj kj (by decide)) ?_
 refine Qav g4 _ (ints .u8 (([0,(byV nm 0)]).set 0 1)) 5 r4_2 rfl kj (Qbi 5 _ _ g4 0 5 _ _ r4_2 rfl kj kj kj (Nat.lt_of_lt_of_eq (show 0<2 by decide) rfl.symm)) fun W3 p3 r4_3=>?_
 have x3:Ext w W3:=Puts.ext p3 x2 b4
 refine Qaj ?_
 refine hK5 _ _ ?_
 refine wp_seq_k fun K7 hK7=>?_
 refine QbO (fun _=>True) kj fun W4 e4=>⟨trivial,?_⟩
 have x4:Ext w W4:=Ext.tr x3 e4
 refine Qas 0 (.slice (some ⟨g4,0,none⟩) 2 2) 13 rfl rfl kj kj (fun _ _ _ h=>h) (fun W hR=>by kernel_rfl) ?_
 refine Qas 1 (.pointer (some ⟨g2,2,none⟩)) 14 rfl rfl kj kj (fun _ _ _ h=>h) (fun W hR=>by kernel_rfl) ?_
 refine Qas 2 (.slice (some ⟨g2,2,none⟩) 32 32) 15 rfl rfl kj kj (fun _ _ _ h=>h) (fun W hR=>by kernel_rfl) ?_
 refine Qas 4 (.pointer (some ⟨g2,34,none⟩)) 17 rfl rfl kj kj (fun _ _ _ h=>h) (fun W hR=>by kernel_rfl) ?_
 refine Qas 5 (.slice (some ⟨g2,34,none⟩) 32 32) 18 rfl rfl kj kj (fun _ _ _ h=>h) (fun W hR=>by kernel_rfl) ?_
 refine Qas 7 (.pointer (some ⟨g2,66,none⟩)) 20 rfl rfl kj kj (fun _ _ _ h=>h) (fun W hR=>by kernel_rfl) ?_
 refine Qas 8 (.slice (some ⟨g2,66,none⟩) 32 32) 21 rfl rfl kj kj (fun _ _ _ h=>h) (fun W hR=>by kernel_rfl) ?_
 refine Qbt 3 kj ?_
 have r4_4:=(Qae r4_3 e4)
 have r2_3:=(Puts.row p3 r2_2 (Qaw r2_1 l4))
 have r2_4:=(Qae r2_3 e4)
 have y1_2:Ext W1 W2:=(Rely.Ext.trans (Rely.Ext.refl W1) e2)
 have y1_3:Ext W1 W3:=(Puts.ext p3 y1_2 l4)
 have y1_4:Ext W1 W4:=(Rely.Ext.trans y1_3 e4)
 refine wo_appendT (k:=.u8) (T:=5) (xs:=([0,(byV nm 0)]).set 0 1) (ys:=key) (V:=W1) 1 (.tmp 13) (.tmp 15) 59 rfl kj kj (by decide) 16 rfl 3 rfl kj kj kj (Qb4 (xs:=([0,(byV nm 0)]).set 0 1) rfl l4 r4_4 (show 2≤maxLen by decide)) (Qb5 2 hkl r2_4 (fun i hi=>Qbf [#[.bool true],#[.int .i64 nm]] [ints .u8 (sg),ints .u8 (pa),#[.slice a_m ms.length c_m]] key 2 i (2+i) kj rfl (by rw [hkl]; exact hi)) (Qa5 r2_4) (qR _) (by decide)) (by simp only [List.length_append,List.length_cons,List.length_nil,List.length_map,List.length_take,List.length_set,nodeH,hkl,hgl,hpl]; omega) y1_4 fun z1 W5 f8 y5 l5=>?_
 have x5:Ext w W5:=Ext.low x4 l5 x1.size
 refine Qbt 6 kj ?_
 have r2_5:=(Qbb l5 r2_4 (Qa5 r2_1))
 refine wo_appendT (k:=.u8) (T:=5) (xs:=([0,(byV nm 0)]).set 0 1++key) (ys:=sg) (V:=W1) 1 (.tmp 16) (.tmp 18) 59 rfl kj kj (by decide) 19 rfl 6 rfl kj kj kj f8 (Qb5 34 hgl r2_5 (fun i hi=>Qbf [#[.bool true],#[.int .i64 nm],ints .u8 (key)] [ints .u8 (pa),#[.slice a_m ms.length c_m]] sg 34 i (34+i) (by rw [Qab,Qab,Qab]; simp only [qS,cat,((Qac _ _).trans hkl)]; rfl) rfl (by rw [hgl]; exact hi)) (Qa5 r2_5) (qR _) (by decide)) (by simp only [List.length_append,List.length_cons,List.length_nil,List.length_map,List.length_take,List.length_set,nodeH,hkl,hgl,hpl]; omega) y5 fun z2 W6 f10 y6 l6=>?_
 have x6:Ext w W6:=Ext.low x5 l6 x1.size
 refine Qbt 9 kj ?_
 have r2_6:=(Qbb l6 r2_5 (Qa5 r2_1))
 refine wo_appendT (k:=.u8) (T:=5) (xs:=([0,(byV nm 0)]).set 0 1++key++sg) (ys:=pa) (V:=W1) 1 (.tmp 19) (.tmp 21) 59 rfl kj kj (by decide) 22 rfl 9 rfl kj kj kj f10 (Qb5 66 hpl r2_6 (fun i hi=>Qbf [#[.bool true],#[.int .i64 nm],ints .u8 (key),ints .u8 (sg)] [#[.slice a_m ms.length c_m]] pa 66 i (66+i) (by rw [Qab,Qab,Qab,Qab]; simp only [qS,cat,((Qac _ _).trans hgl),((Qac _ _).trans hkl)]; rfl) rfl (by rw [hpl]; exact hi)) (Qa5 r2_6) (qR _) (by decide)) (by simp only [List.length_append,List.length_cons,List.length_nil,List.length_map,List.length_take,List.length_set,nodeH,hkl,hgl,hpl]; omega) y6 fun z3 W7 f12 y7 l7=>?_
 have x7:Ext w W7:=Ext.low x6 l7 x1.size
 refine Qas 10 (z3) 3 rfl rfl kj kj (fun _ _ _ h=>h) (fun W hR=>by kernel_rfl) ?_
 refine Qcb kj ?_
 refine hK7 _ _ ?_
 refine wp_seq_k fun K14 hK14=>?_
 refine Qad ?_
 refine Qaa (z3) 23 rfl kj kj ?_
 refine Qaa (.pointer (some ⟨g2,98,none⟩)) 24 rfl kj kj ?_
 have r2_7:=(Qbb l7 r2_6 (Qa5 r2_1))
 refine Qaa (.slice a_m ms.length c_m) 25 rfl kj (Qaf 24 _ g2 98 50 _ (.slice a_m ms.length c_m) _ r2_7 rfl kj (Qah [#[.bool true],#[.int .i64 nm],ints .u8 (key),ints .u8 (sg),ints .u8 (pa)] [#[.slice a_m ms.length c_m]] [] 98 (by rw [Qab,Qab,Qab,Qab,Qab]; simp only [qS,cat,((Qac _ _).trans hgl),((Qac _ _).trans hkl),((Qac _ _).trans hpl)]; rfl) 0 _ rfl) kj) ?_
 refine Qaa (.int .i64 ((ms.length:Nat):Int)) 26 rfl kj kj ?_
 refine Qaa (.int .u8 (byV ((ms.length:Nat):Int) 0)) 27 rfl kj (Qag (u:=.int .u8 (IntKind.u8.wrap ((ms.length:Nat):Int))) kj (congrArg (Value.int .u8) (byV0 _))) ?_
 refine Qa9 (ints .u8 ([(byV ((ms.length:Nat):Int) 0)])) 5 1 28 rfl kj kj fun g15 W8 l15 e8 r15_8=>?_
 have x8:Ext w W8:=Ext.tr x7 e8
 have b15:w.heap.size≤g15:=qT x7.size l15
 have f16_8:=(f12.ext e8)
 have y1_8:Ext W1 W8:=(Rely.Ext.trans y7 e8)
 refine QaC (k:=.u8) (T:=5) (xs:=([0,(byV nm 0)]).set 0 1++key++sg++pa) (ys:=[(byV ((ms.length:Nat):Int) 0)]) (V:=W1) 1 (.tmp 23) (.tmp 28) 59 rfl kj kj (by decide) 29 rfl kj kj kj f16_8 (QaJ (xs:=[(byV ((ms.length:Nat):Int) 0)]) (n:=1) rfl r15_8 (Qa5 r15_8) (show 1≤maxLen from by decide)) (by simp only [List.length_append,List.length_cons,List.length_nil,List.length_map,List.length_take,List.length_set,nodeH,hkl,hgl,hpl]; omega) y1_8 fun z4 W9 f17 y9 l9=>?_
 have x9:Ext w W9:=Ext.low x8 l9 x1.size
 refine Qaa (z4) 3 rfl kj kj ?_
 refine Qaj ?_
 refine hK14 _ _ ?_
 refine wp_seq_k fun K19 hK19=>?_
 refine wp_seq_k fun K20 hK20=>?_
 refine Qad ?_
 refine Qaa (.int .i64 0) 4 rfl kj kj ?_
 refine Qaj ?_
 refine hK20 _ _ ?_
 refine wp_block ?_
 refine Qay (fun (s1:Nat×Value)=>[(1,.pointer (some ⟨g2,0,none⟩)),(3,s1.2),(4,.int .i64 ((s1.1:Nat):Int))]) (fun (s1:Nat×Value) W=>(s1.1≤ms.length)∧(OwnN .u8 5 W1.heap.size (nodeH true nm key sg pa ms.length++(ms.take s1.1).map (fun m=>byV m 0)) s1.2 W)∧(Below W1.heap.size W9 W)∧(Ext w W)) (fun (s1:Nat×Value)=>ms.length-s1.1) (0,z4) ⟨rfl,rfl,rfl,trivial⟩ ⟨(Nat.zero_le _),(by rw [List.take_zero,List.map_nil,List.append_nil]; exact f17),(RowKit.Below.refl _ W9),x9⟩ fun s1 X1 V1 hI1=>?_
 obtain ⟨i,u⟩:=s1
 obtain ⟨hi,hu,kk1,xx1⟩:=hI1
 replace hi:i≤ms.length:=hi
 replace hu:OwnN .u8 5 W1.heap.size (nodeH true nm key sg pa ms.length++(ms.take i).map (fun m=>byV m 0)) u V1:=hu
 replace kk1:Below W1.heap.size W9 V1:=kk1
 replace xx1:Ext w V1:=xx1
 have l10:=kk1
 refine wp_seq_k fun K21 hK21=>?_
 refine wp_seq_k fun K22 hK22=>?_
 refine Qad ?_
 refine Qaa (.int .i64 ((i:Nat):Int)) 30 rfl kj kj ?_
 refine Qaa (.pointer (some ⟨g2,98,none⟩)) 31 rfl kj kj ?_
 have r2_8:=(Qae r2_7 e8)
 have r2_9:=(Qbb l9 r2_8 (Qa5 r2_1))
 have r2_10:=(Qbb l10 r2_9 (Qa5 r2_1))
 refine Qaa (.slice a_m ms.length c_m) 32 rfl kj (Qaf 24 _ g2 98 50 _ (.slice a_m ms.length c_m) _ r2_10 rfl kj (Qah [#[.bool true],#[.int .i64 nm],ints .u8 (key),ints .u8 (sg),ints .u8 (pa)] [#[.slice a_m ms.length c_m]] [] 98 (by rw [Qab,Qab,Qab,Qab,Qab]; simp only [qS,cat,((Qac _ _).trans hgl),((Qac _ _).trans hkl),((Qac _ _).trans hpl)]; rfl) 0 _ rfl) kj) ?_
 refine Qaa (.int .i64 ((ms.length:Nat):Int)) 33 rfl kj kj ?_
 refine Qaa (.bool (decide (((i:Nat):Int)<((ms.length:Nat):Int)))) 34 rfl kj kj ?_
 refine Qaj ?_
 refine hK22 _ _ ?_
 refine Qaq (t:=decide (((i:Nat):Int)<((ms.length:Nat):Int))) kj (fun c23=>?_) (fun c23=>?_)
 ·skip
  have hlt34:i<ms.length:=by have:=of_decide_eq_true c23; omega
  have hnm_24:(ms).length=ms.length:=rfl
  obtain ⟨gcm_24,ocm_24,ham_24,hlm_24,hcm_24⟩:=QaO (RdK.here (RdK.ext hm xx1)) (by rw [hnm_24]; omega)
  refine wp_skip ?_
  refine hK21 _ _ ?_
  refine wp_seq_k fun K25 hK25=>?_
  refine wp_block ?_
  refine Qad ?_
  refine Qaa (u) 37 rfl kj kj ?_
  refine Qaa (.pointer (some ⟨g2,98,none⟩)) 38 rfl kj kj ?_
  refine Qaa (.slice a_m ms.length c_m) 39 rfl kj (Qaf 24 _ g2 98 50 _ (.slice a_m ms.length c_m) _ r2_10 rfl kj (Qah [#[.bool true],#[.int .i64 nm],ints .u8 (key),ints .u8 (sg),ints .u8 (pa)] [#[.slice a_m ms.length c_m]] [] 98 (by rw [Qab,Qab,Qab,Qab,Qab]; simp only [qS,cat,((Qac _ _).trans hgl),((Qac _ _).trans hkl),((Qac _ _).trans hpl)]; rfl) 0 _ rfl) kj) ?_
  refine Qaa (.int .i64 ((i:Nat):Int)) 40 rfl kj kj ?_
  refine Qaa (.pointer (some ⟨gcm_24,ocm_24+i,none⟩)) 41 rfl kj (Qa1 24 _ _ .i64 i gcm_24 ocm_24 ms.length c_m 3 a_m _ ham_24 rfl rfl kj kj kj kj (Nat.lt_of_lt_of_eq (show i<ms.length by omega) hnm_24.symm)) ?_
  refine Qaa (.int .i64 (nth (ms) (i))) 42 rfl kj (Qai 3 _ _ (.int .i64 (nth (ms) (i))) (hcm_24 i (Nat.lt_of_lt_of_eq (show i<ms.length by omega) hnm_24.symm)) rfl kj kj) ?_
  refine Qaa (.int .u8 (byV (nth ms i) 0)) 43 rfl kj (Qag (u:=.int .u8 (IntKind.u8.wrap (nth (ms) (i)))) kj (congrArg (Value.int .u8) (byV0 _))) ?_
  refine Qa9 (ints .u8 ([(byV (nth ms i) 0)])) 5 1 44 rfl kj kj fun g26 W11 l26 e11 r26_11=>?_
  have x11:Ext w W11:=Ext.tr xx1 e11
  have b26:w.heap.size≤g26:=qT xx1.size l26
  have f27_11:=(hu.ext e11)
  have y1_10:Ext W1 V1:=(Ext.low y9 l10 (Rely.Ext.refl W1).size)
  have y1_11:Ext W1 W11:=(Rely.Ext.trans y1_10 e11)
  refine QaC (k:=.u8) (T:=5) (xs:=nodeH true nm key sg pa ms.length++(ms.take i).map (fun m=>byV m 0)) (ys:=[(byV (nth ms i) 0)]) (V:=W1) 1 (.tmp 37) (.tmp 44) 59 rfl kj kj (by decide) 45 rfl kj kj kj f27_11 (QaJ (xs:=[(byV (nth ms i) 0)]) (n:=1) rfl r26_11 (Qa5 r26_11) (show 1≤maxLen from by decide)) (by simp only [List.length_append,List.length_cons,List.length_nil,List.length_map,List.length_take,List.length_set,nodeH,hkl,hgl,hpl]; omega) y1_11 fun z5 W12 f28 y12 l12=>?_
  have x12:Ext w W12:=Ext.low x11 l12 x1.size
  refine Qaa (z5) 3 rfl kj kj ?_
  refine Qaj ?_
  refine hK25 _ _ ?_
  refine Qad ?_
  refine Qaa (.int .i64 ((i:Nat):Int)) 35 rfl kj kj ?_
  refine Qaa (.int .i64 ((i+1:Nat):Int)) 36 rfl kj (Qag (u:=.int .i64 (IntKind.i64.wrap (((i:Nat):Int)+1))) kj (congrArg (Value.int .i64) (i64n _ _ (by omega) (by omega)))) ?_
  refine Qaa (.int .i64 ((i+1:Nat):Int)) 4 rfl kj kj ?_
  refine Qaj ?_
  repeat (first | with_reducible refine goX1 ?_ | with_reducible refine goX2 ?_ | with_reducible refine goX3 ?_)
  exact Qap ((i+1),z5) ⟨rfl,rfl,rfl,trivial⟩ ⟨(by omega),(by rw [QeM _ ms i hlt34]; exact f28),(RowKit.Below.trans (RowKit.Below.trans l10 (RowKit.Below.mono e11 y1_10.size)) l12),x12⟩ (by omega)
 ·skip
  have heq34:i=ms.length:=by have:=of_decide_eq_false c23; omega
  refine wp_exit ?_
  refine hK19 _ _ ?_
  refine wp_seq_k fun K30 hK30=>?_
  refine Qad ?_
  refine Qaa (u) 46 rfl kj kj ?_
  refine Qaa (u) 2 rfl kj kj ?_
  refine Qaj ?_
  refine hK30 _ _ ?_
  refine wp_ret ?_
  repeat (first | with_reducible refine goR1 ?_ | with_reducible refine goR2 ?_)
  exact (show bodyPost _ _ _ .ret _ _ from ret1 (u) rfl (Qar kj) ⟨_,rfl,xx1,OwnN.base x1.size (show OwnN .u8 5 _ (nodeV true nm key sg pa ms) _ _ by have h7:=hu; rw [heq34,List.take_length] at h7; exact h7)⟩)
theorem Qgc (nm : Int) (key sg pa ms:List Int) (a_m:Option Addr) (c_m:Nat) (w:World) (hkl:key.length=32) (hgl:sg.length=32) (hpl:pa.length=32) (hml:ms.length≤1000000) (hm:RdK .i64 w.heap.size ms (.slice a_m ms.length c_m) w):Calls Tryd.prog 57 #[.agg (cat [#[.bool false],#[.int .i64 nm],ints .u8 (key),ints .u8 (sg),ints .u8 (pa),#[.slice a_m ms.length c_m]])] w (Qbs w (OwnN .u8 5 w.heap.size (nodeV false nm key sg pa ms))):=by
 refine enter 47 [(0,.agg (cat [#[.bool false],#[.int .i64 nm],ints .u8 (key),ints .u8 (sg),ints .u8 (pa),#[.slice a_m ms.length c_m]]))] Tryd.func57 rfl rfl kj rfl ?_
 refine wp_seq_k fun K1 hK1=>?_
 refine Qad ?_
 refine Qal (cat [#[.bool false],#[.int .i64 nm],ints .u8 (key),ints .u8 (sg),ints .u8 (pa),#[.slice a_m ms.length c_m]]) 50 1 rfl kj kj fun g2 W1 l2 e1 r2_1=>?_
 have x1:Ext w W1:=Ext.tr (Rely.Ext.refl w) e1
 have b2:w.heap.size≤g2:=qT (Rely.Ext.refl w).size l2
 refine Qaa (.slice none 0 0) 2 rfl kj kj ?_
 refine Qaj ?_
 refine hK1 _ _ ?_
 refine wp_seq_k fun K3 hK3=>?_
 refine Qad ?_
 refine Qaa (.pointer (some ⟨g2,1,none⟩)) 5 rfl kj kj ?_
 refine Qaa (.int .i64 nm) 6 rfl kj (Qaf 3 _ g2 1 50 _ (.int .i64 nm) _ r2_1 rfl kj (Qah [#[.bool false]] [#[.int .i64 nm]] [ints .u8 (key),ints .u8 (sg),ints .u8 (pa),#[.slice a_m ms.length c_m]] 1 kj 0 _ rfl) kj) ?_
 refine Qaa (.int .u8 (byV nm 0)) 7 rfl kj (Qag (u:=.int .u8 (IntKind.u8.wrap (nm))) kj (congrArg (Value.int .u8) (byV0 nm))) ?_
 refine Qa9 (ints .u8 ([0,(byV nm 0)])) 5 2 8 rfl kj kj fun g4 W2 l4 e2 r4_2=>?_
 have x2:Ext w W2:=Ext.tr x1 e2
 have b4:w.heap.size≤g4:=qT x1.size l4
 refine Qaa (.slice (some ⟨g4,0,none⟩) 2 2) 3 rfl kj kj ?_
 refine Qaj ?_
 refine hK3 _ _ ?_
 refine wp_seq_k fun K5 hK5=>?_
 refine wp_seq_k fun K6 hK6=>?_
 refine Qad ?_
 refine Qaa (.pointer (some ⟨g2,0,none⟩)) 9 rfl kj kj ?_
 have r2_2:=(Qae r2_1 e2)
 refine Qaa (.bool false) 10 rfl kj (Qaf 4 _ g2 0 50 _ (.bool false) _ r2_2 rfl kj (Qah [] [#[.bool false]] [#[.int .i64 nm],ints .u8 (key),ints .u8 (sg),ints .u8 (pa),#[.slice a_m ms.length c_m]] 0 kj 0 _ rfl) kj) ?_
 refine Qaj ?_
 refine hK6 _ _ ?_
 refine cond_false kj ?_
 refine wp_skip ?_
 refine hK5 _ _ ?_
 refine wp_seq_k fun K7 hK7=>?_
 refine QbO (fun _=>True) kj fun W3 e3=>⟨trivial,?_⟩
 have x3:Ext w W3:=Ext.tr x2 e3
 refine Qas 0 (.slice (some ⟨g4,0,none⟩) 2 2) 13 rfl rfl kj kj (fun _ _ _ h=>h) (fun W hR=>by kernel_rfl) ?_
 refine Qas 1 (.pointer (some ⟨g2,2,none⟩)) 14 rfl rfl kj kj (fun _ _ _ h=>h) (fun W hR=>by kernel_rfl) ?_
 refine Qas 2 (.slice (some ⟨g2,2,none⟩) 32 32) 15 rfl rfl kj kj (fun _ _ _ h=>h) (fun W hR=>by kernel_rfl) ?_
 refine Qas 4 (.pointer (some ⟨g2,34,none⟩)) 17 rfl rfl kj kj (fun _ _ _ h=>h) (fun W hR=>by kernel_rfl) ?_
 refine Qas 5 (.slice (some ⟨g2,34,none⟩) 32 32) 18 rfl rfl kj kj (fun _ _ _ h=>h) (fun W hR=>by kernel_rfl) ?_
 refine Qas 7 (.pointer (some ⟨g2,66,none⟩)) 20 rfl rfl kj kj (fun _ _ _ h=>h) (fun W hR=>by kernel_rfl) ?_
 refine Qas 8 (.slice (some ⟨g2,66,none⟩) 32 32) 21 rfl rfl kj kj (fun _ _ _ h=>h) (fun W hR=>by kernel_rfl) ?_
 refine Qbt 3 kj ?_
 have r4_3:=(Qae r4_2 e3)
 have r2_3:=(Qae r2_2 e3)
 have y1_2:Ext W1 W2:=(Rely.Ext.trans (Rely.Ext.refl W1) e2)
 have y1_3:Ext W1 W3:=(Rely.Ext.trans y1_2 e3)
 refine wo_appendT (k:=.u8) (T:=5) (xs:=[0,(byV nm 0)]) (ys:=key) (V:=W1) 1 (.tmp 13) (.tmp 15) 59 rfl kj kj (by decide) 16 rfl 3 rfl kj kj kj (Qb4 (xs:=[0,(byV nm 0)]) rfl l4 r4_3 (show 2≤maxLen by decide)) (Qb5 2 hkl r2_3 (fun i hi=>Qbf [#[.bool false],#[.int .i64 nm]] [ints .u8 (sg),ints .u8 (pa),#[.slice a_m ms.length c_m]] key 2 i (2+i) kj rfl (by rw [hkl]; exact hi)) (Qa5 r2_3) (qR _) (by decide)) (by simp only [List.length_append,List.length_cons,List.length_nil,List.length_map,List.length_take,List.length_set,nodeH,hkl,hgl,hpl]; omega) y1_3 fun z1 W4 f8 y4 l4=>?_
 have x4:Ext w W4:=Ext.low x3 l4 x1.size
 refine Qbt 6 kj ?_
 have r2_4:=(Qbb l4 r2_3 (Qa5 r2_1))
 refine wo_appendT (k:=.u8) (T:=5) (xs:=[0,(byV nm 0)]++key) (ys:=sg) (V:=W1) 1 (.tmp 16) (.tmp 18) 59 rfl kj kj (by decide) 19 rfl 6 rfl kj kj kj f8 (Qb5 34 hgl r2_4 (fun i hi=>Qbf [#[.bool false],#[.int .i64 nm],ints .u8 (key)] [ints .u8 (pa),#[.slice a_m ms.length c_m]] sg 34 i (34+i) (by rw [Qab,Qab,Qab]; simp only [qS,cat,((Qac _ _).trans hkl)]; rfl) rfl (by rw [hgl]; exact hi)) (Qa5 r2_4) (qR _) (by decide)) (by simp only [List.length_append,List.length_cons,List.length_nil,List.length_map,List.length_take,List.length_set,nodeH,hkl,hgl,hpl]; omega) y4 fun z2 W5 f10 y5 l5=>?_
 have x5:Ext w W5:=Ext.low x4 l5 x1.size
 refine Qbt 9 kj ?_
 have r2_5:=(Qbb l5 r2_4 (Qa5 r2_1))
 refine wo_appendT (k:=.u8) (T:=5) (xs:=[0,(byV nm 0)]++key++sg) (ys:=pa) (V:=W1) 1 (.tmp 19) (.tmp 21) 59 rfl kj kj (by decide) 22 rfl 9 rfl kj kj kj f10 (Qb5 66 hpl r2_5 (fun i hi=>Qbf [#[.bool false],#[.int .i64 nm],ints .u8 (key),ints .u8 (sg)] [#[.slice a_m ms.length c_m]] pa 66 i (66+i) (by rw [Qab,Qab,Qab,Qab]; simp only [qS,cat,((Qac _ _).trans hgl),((Qac _ _).trans hkl)]; rfl) rfl (by rw [hpl]; exact hi)) (Qa5 r2_5) (qR _) (by decide)) (by simp only [List.length_append,List.length_cons,List.length_nil,List.length_map,List.length_take,List.length_set,nodeH,hkl,hgl,hpl]; omega) y5 fun z3 W6 f12 y6 l6=>?_
 have x6:Ext w W6:=Ext.low x5 l6 x1.size
 refine Qas 10 (z3) 3 rfl rfl kj kj (fun _ _ _ h=>h) (fun W hR=>by kernel_rfl) ?_
 refine Qcb kj ?_
 refine hK7 _ _ ?_
 refine wp_seq_k fun K14 hK14=>?_
 refine Qad ?_
 refine Qaa (z3) 23 rfl kj kj ?_
 refine Qaa (.pointer (some ⟨g2,98,none⟩)) 24 rfl kj kj ?_
 have r2_6:=(Qbb l6 r2_5 (Qa5 r2_1))
 refine Qaa (.slice a_m ms.length c_m) 25 rfl kj (Qaf 24 _ g2 98 50 _ (.slice a_m ms.length c_m) _ r2_6 rfl kj (Qah [#[.bool false],#[.int .i64 nm],ints .u8 (key),ints .u8 (sg),ints .u8 (pa)] [#[.slice a_m ms.length c_m]] [] 98 (by rw [Qab,Qab,Qab,Qab,Qab]; simp only [qS,cat,((Qac _ _).trans hgl),((Qac _ _).trans hkl),((Qac _ _).trans hpl)]; rfl) 0 _ rfl) kj) ?_
 refine Qaa (.int .i64 ((ms.length:Nat):Int)) 26 rfl kj kj ?_
 refine Qaa (.int .u8 (byV ((ms.length:Nat):Int) 0)) 27 rfl kj (Qag (u:=.int .u8 (IntKind.u8.wrap ((ms.length:Nat):Int))) kj (congrArg (Value.int .u8) (byV0 _))) ?_
 refine Qa9 (ints .u8 ([(byV ((ms.length:Nat):Int) 0)])) 5 1 28 rfl kj kj fun g15 W7 l15 e7 r15_7=>?_
 have x7:Ext w W7:=Ext.tr x6 e7
 have b15:w.heap.size≤g15:=qT x6.size l15
 have f16_7:=(f12.ext e7)
 have y1_7:Ext W1 W7:=(Rely.Ext.trans y6 e7)
 refine QaC (k:=.u8) (T:=5) (xs:=[0,(byV nm 0)]++key++sg++pa) (ys:=[(byV ((ms.length:Nat):Int) 0)]) (V:=W1) 1 (.tmp 23) (.tmp 28) 59 rfl kj kj (by decide) 29 rfl kj kj kj f16_7 (QaJ (xs:=[(byV ((ms.length:Nat):Int) 0)]) (n:=1) rfl r15_7 (Qa5 r15_7) (show 1≤maxLen from by decide)) (by simp only [List.length_append,List.length_cons,List.length_nil,List.length_map,List.length_take,List.length_set,nodeH,hkl,hgl,hpl]; omega) y1_7 fun z4 W8 f17 y8 l8=>?_
 have x8:Ext w W8:=Ext.low x7 l8 x1.size
 refine Qaa (z4) 3 rfl kj kj ?_
 refine Qaj ?_
 refine hK14 _ _ ?_
 refine wp_seq_k fun K19 hK19=>?_
 refine wp_seq_k fun K20 hK20=>?_
 refine Qad ?_
 refine Qaa (.int .i64 0) 4 rfl kj kj ?_
 refine Qaj ?_
 refine hK20 _ _ ?_
 refine wp_block ?_
 refine Qay (fun (s1:Nat×Value)=>[(1,.pointer (some ⟨g2,0,none⟩)),(3,s1.2),(4,.int .i64 ((s1.1:Nat):Int))]) (fun (s1:Nat×Value) W=>(s1.1≤ms.length)∧(OwnN .u8 5 W1.heap.size (nodeH false nm key sg pa ms.length++(ms.take s1.1).map (fun m=>byV m 0)) s1.2 W)∧(Below W1.heap.size W8 W)∧(Ext w W)) (fun (s1:Nat×Value)=>ms.length-s1.1) (0,z4) ⟨rfl,rfl,rfl,trivial⟩ ⟨(Nat.zero_le _),(by rw [List.take_zero,List.map_nil,List.append_nil]; exact f17),(RowKit.Below.refl _ W8),x8⟩ fun s1 X1 V1 hI1=>?_
 obtain ⟨i,u⟩:=s1
 obtain ⟨hi,hu,kk1,xx1⟩:=hI1
 replace hi:i≤ms.length:=hi
 replace hu:OwnN .u8 5 W1.heap.size (nodeH false nm key sg pa ms.length++(ms.take i).map (fun m=>byV m 0)) u V1:=hu
 replace kk1:Below W1.heap.size W8 V1:=kk1
 replace xx1:Ext w V1:=xx1
 have l9:=kk1
 refine wp_seq_k fun K21 hK21=>?_
 refine wp_seq_k fun K22 hK22=>?_
 refine Qad ?_
 refine Qaa (.int .i64 ((i:Nat):Int)) 30 rfl kj kj ?_
 refine Qaa (.pointer (some ⟨g2,98,none⟩)) 31 rfl kj kj ?_
 have r2_7:=(Qae r2_6 e7)
 have r2_8:=(Qbb l8 r2_7 (Qa5 r2_1))
 have r2_9:=(Qbb l9 r2_8 (Qa5 r2_1))
 refine Qaa (.slice a_m ms.length c_m) 32 rfl kj (Qaf 24 _ g2 98 50 _ (.slice a_m ms.length c_m) _ r2_9 rfl kj (Qah [#[.bool false],#[.int .i64 nm],ints .u8 (key),ints .u8 (sg),ints .u8 (pa)] [#[.slice a_m ms.length c_m]] [] 98 (by rw [Qab,Qab,Qab,Qab,Qab]; simp only [qS,cat,((Qac _ _).trans hgl),((Qac _ _).trans hkl),((Qac _ _).trans hpl)]; rfl) 0 _ rfl) kj) ?_
 refine Qaa (.int .i64 ((ms.length:Nat):Int)) 33 rfl kj kj ?_
 refine Qaa (.bool (decide (((i:Nat):Int)<((ms.length:Nat):Int)))) 34 rfl kj kj ?_
 refine Qaj ?_
 refine hK22 _ _ ?_
 refine Qaq (t:=decide (((i:Nat):Int)<((ms.length:Nat):Int))) kj (fun c23=>?_) (fun c23=>?_)
 ·skip
  have hlt34:i<ms.length:=by have:=of_decide_eq_true c23; omega
  have hnm_24:(ms).length=ms.length:=rfl
  obtain ⟨gcm_24,ocm_24,ham_24,hlm_24,hcm_24⟩:=QaO (RdK.here (RdK.ext hm xx1)) (by rw [hnm_24]; omega)
  refine wp_skip ?_
  refine hK21 _ _ ?_
  refine wp_seq_k fun K25 hK25=>?_
  refine wp_block ?_
  refine Qad ?_
  refine Qaa (u) 37 rfl kj kj ?_
  refine Qaa (.pointer (some ⟨g2,98,none⟩)) 38 rfl kj kj ?_
  refine Qaa (.slice a_m ms.length c_m) 39 rfl kj (Qaf 24 _ g2 98 50 _ (.slice a_m ms.length c_m) _ r2_9 rfl kj (Qah [#[.bool false],#[.int .i64 nm],ints .u8 (key),ints .u8 (sg),ints .u8 (pa)] [#[.slice a_m ms.length c_m]] [] 98 (by rw [Qab,Qab,Qab,Qab,Qab]; simp only [qS,cat,((Qac _ _).trans hgl),((Qac _ _).trans hkl),((Qac _ _).trans hpl)]; rfl) 0 _ rfl) kj) ?_
  refine Qaa (.int .i64 ((i:Nat):Int)) 40 rfl kj kj ?_
  refine Qaa (.pointer (some ⟨gcm_24,ocm_24+i,none⟩)) 41 rfl kj (Qa1 24 _ _ .i64 i gcm_24 ocm_24 ms.length c_m 3 a_m _ ham_24 rfl rfl kj kj kj kj (Nat.lt_of_lt_of_eq (show i<ms.length by omega) hnm_24.symm)) ?_
  refine Qaa (.int .i64 (nth (ms) (i))) 42 rfl kj (Qai 3 _ _ (.int .i64 (nth (ms) (i))) (hcm_24 i (Nat.lt_of_lt_of_eq (show i<ms.length by omega) hnm_24.symm)) rfl kj kj) ?_
  refine Qaa (.int .u8 (byV (nth ms i) 0)) 43 rfl kj (Qag (u:=.int .u8 (IntKind.u8.wrap (nth (ms) (i)))) kj (congrArg (Value.int .u8) (byV0 _))) ?_
  refine Qa9 (ints .u8 ([(byV (nth ms i) 0)])) 5 1 44 rfl kj kj fun g26 W10 l26 e10 r26_10=>?_
  have x10:Ext w W10:=Ext.tr xx1 e10
  have b26:w.heap.size≤g26:=qT xx1.size l26
  have f27_10:=(hu.ext e10)
  have y1_9:Ext W1 V1:=(Ext.low y8 l9 (Rely.Ext.refl W1).size)
  have y1_10:Ext W1 W10:=(Rely.Ext.trans y1_9 e10)
  refine QaC (k:=.u8) (T:=5) (xs:=nodeH false nm key sg pa ms.length++(ms.take i).map (fun m=>byV m 0)) (ys:=[(byV (nth ms i) 0)]) (V:=W1) 1 (.tmp 37) (.tmp 44) 59 rfl kj kj (by decide) 45 rfl kj kj kj f27_10 (QaJ (xs:=[(byV (nth ms i) 0)]) (n:=1) rfl r26_10 (Qa5 r26_10) (show 1≤maxLen from by decide)) (by simp only [List.length_append,List.length_cons,List.length_nil,List.length_map,List.length_take,List.length_set,nodeH,hkl,hgl,hpl]; omega) y1_10 fun z5 W11 f28 y11 l11=>?_
  have x11:Ext w W11:=Ext.low x10 l11 x1.size
  refine Qaa (z5) 3 rfl kj kj ?_
  refine Qaj ?_
  refine hK25 _ _ ?_
  refine Qad ?_
  refine Qaa (.int .i64 ((i:Nat):Int)) 35 rfl kj kj ?_
  refine Qaa (.int .i64 ((i+1:Nat):Int)) 36 rfl kj (Qag (u:=.int .i64 (IntKind.i64.wrap (((i:Nat):Int)+1))) kj (congrArg (Value.int .i64) (i64n _ _ (by omega) (by omega)))) ?_
  refine Qaa (.int .i64 ((i+1:Nat):Int)) 4 rfl kj kj ?_
  refine Qaj ?_
  repeat (first | with_reducible refine goX1 ?_ | with_reducible refine goX2 ?_ | with_reducible refine goX3 ?_)
  exact Qap ((i+1),z5) ⟨rfl,rfl,rfl,trivial⟩ ⟨(by omega),(by rw [QeM _ ms i hlt34]; exact f28),(RowKit.Below.trans (RowKit.Below.trans l9 (RowKit.Below.mono e10 y1_9.size)) l11),x11⟩ (by omega)
 ·skip
  have heq34:i=ms.length:=by have:=of_decide_eq_false c23; omega
  refine wp_exit ?_
  refine hK19 _ _ ?_
  refine wp_seq_k fun K30 hK30=>?_
  refine Qad ?_
  refine Qaa (u) 46 rfl kj kj ?_
  refine Qaa (u) 2 rfl kj kj ?_
  refine Qaj ?_
  refine hK30 _ _ ?_
  refine wp_ret ?_
  repeat (first | with_reducible refine goR1 ?_ | with_reducible refine goR2 ?_)
  exact (show bodyPost _ _ _ .ret _ _ from ret1 (u) rfl (Qar kj) ⟨_,rfl,xx1,OwnN.base x1.size (show OwnN .u8 5 _ (nodeV false nm key sg pa ms) _ _ by have h7:=hu; rw [heq34,List.take_length] at h7; exact h7)⟩)
theorem rnodeC (us : Bool) (nm:Int) (key sg pa ms:List Int) (a_m:Option Addr) (c_m:Nat) (w:World) (hkl:key.length=32) (hgl:sg.length=32) (hpl:pa.length=32) (hml:ms.length≤1000000) (hm:RdK .i64 w.heap.size ms (.slice a_m ms.length c_m) w):Calls Tryd.prog 57 #[.agg (cat [#[.bool us],#[.int .i64 nm],ints .u8 (key),ints .u8 (sg),ints .u8 (pa),#[.slice a_m ms.length c_m]])] w (Qbs w (OwnN .u8 5 w.heap.size (nodeV us nm key sg pa ms))):=by
  cases us with
  | true=>exact Qhc nm key sg pa ms a_m c_m w hkl hgl hpl hml hm
  | false=>exact Qgc nm key sg pa ms a_m c_m w hkl hgl hpl hml hm
end Go.Proofs.YthfkppjajmjpnaaDoor.Wr
end
section
namespace Go.Proofs.YthfkppjajmjpnaaDoor.Wr
open Go Go.RowKit
open Rely Auto Own Sha
def refN (us : Bool) (nm:Int) (key sg pa ms:List Int):Option (List Int):=if goodV us nm key sg pa ms=true then some (nodeV us nm key sg pa ms) else none
def allN (ms : List Int):Nat→Bool
  | 0=>true
  | n+1=>allN ms n&&inB (nth ms n) 31
theorem QgH (ms : List Int):∀ n,goodN ms n=(risN ms n&&allN ms n)
  | 0=>rfl
  | n+1=>by
    show (goodN ms n&&(inB (nth ms n) 31&&((n==0) || decide (nth ms (n-1)<nth ms n))))=((risN ms n&&((n==0) || decide (nth ms (n-1)<nth ms n)))&&(allN ms n&&inB (nth ms n) 31))
    rw [QgH ms n]
    cases risN ms n <;> cases allN ms n <;> cases inB (nth ms n) 31 <;> cases ((n==0) || decide (nth ms (n-1)<nth ms n)) <;> rfl
theorem QjQ (ms : List Int):∀ n,allN ms n=true→∀ i,i<n→inB (nth ms i) 31=true
  | 0,_,i,hi=>absurd hi (Nat.not_lt_zero _)
  | n+1,h,i,hi=>by
    have h':(allN ms n&&inB (nth ms n) 31)=true:=h
    rw [Bool.and_eq_true] at h'
    rcases Nat.lt_or_ge i n with h2 | h2
    · exact QjQ ms n h'.1 i h2
    · obtain rfl:i=n:=by omega
      exact h'.2
theorem QhC (ms : List Int):∀ n,risN ms n=true→allN ms n=true→∀ i,i<n→((i:Nat):Int)≤nth ms i
  | 0,_,_,i,hi=>absurd hi (Nat.not_lt_zero _)
  | n+1,hr,ha,i,hi=>by
    have hr':(risN ms n&&((n==0) || decide (nth ms (n-1)<nth ms n)))=true:=hr
    have ha':(allN ms n&&inB (nth ms n) 31)=true:=ha
    rw [Bool.and_eq_true] at hr' ha'
    rcases Nat.lt_or_ge i n with h2 | h2
    · exact QhC ms n hr'.1 ha'.1 i h2
    · obtain rfl:i=n:=by omega
      have h0:=Qii ha'.2
      by_cases hz:i=0
      · subst hz; exact h0.1
      · have h3:=hr'.2
        rw [beq_eq_false_iff_ne.2 hz,Bool.false_or,decide_eq_true_eq] at h3
        have h4:=QhC ms i hr'.1 ha'.1 (i-1) (by omega)
        omega
theorem QmG (ms : List Int) (hr:risV ms=true) (ha:allN ms ms.length=true):ms.length≤32:=by
  rcases Nat.lt_or_ge 32 ms.length with h | h
  · have h1:=QhC ms ms.length hr ha 32 h
    have h2:=Qii (QjQ ms ms.length ha 32 h)
    omega
  · exact h
theorem QgS (ms : List Int):∀ n,n≤ms.length→allN ms n=(ms.take n).all fun m=>inB m 31
  | 0,_=>rfl
  | n+1,h=>by
    have e:ms.take (n+1)=ms.take n++[nth ms n]:=by
      rw [List.take_add_one,List.getElem?_eq_getElem (show n<ms.length by omega)]
      unfold nth
      rw [List.getD_eq_getElem?_getD,List.getElem?_eq_getElem (show n<ms.length by omega)]
      rfl
    rw [e,List.all_append,←QgS ms n (by omega)]
    show (allN ms n&&inB (nth ms n) 31)=(allN ms n&&(inB (nth ms n) 31&&true))
    rw [Bool.and_true]
theorem leaves_eq (s : Option (List Int)):∀ (ms a:List Int),ms.foldl Qcm (rawS s a)=bif (ms.all fun m=>inB m 31) then rawS s (a++ms.map fun m=>byV m 0) else none
  | [],a=>by show rawS s a=rawS s (a++[]); rw [List.append_nil]
  | m::r,a=>by
    show r.foldl Qcm (Qcm (rawS s a) m)=bif (inB m 31&&(r.all fun m=>inB m 31)) then rawS s (a++byV m 0::r.map fun m=>byV m 0) else none
    rw [QgC]
    cases inB m 31 with
    | false=>exact Qb6 r
    | true =>
      show r.foldl Qcm (rawS (rawS s a) (beV m 1))=_
      rw [Qcv,leaves_eq s r]
      show _=bif (r.all fun m=>inB m 31) then _ else none
      rw [List.append_assoc]
      rfl
theorem nodeS_eq (us : Bool) (nm:Int) (key sg pa ms:List Int) (hkl:key.length=32) (hgl:sg.length=32) (hpl:pa.length=32):nodeS (some []) us nm key sg pa ms=refN us nm key sg pa ms:=by
  have hall:=QgS ms ms.length (qR _)
  rw [List.take_length] at hall
  unfold nodeS refN goodV Qc0
  rw [QgH]
  change _=if (inB nm 255&&decide (ms.length≤32)&&(risV ms&&allN ms ms.length&&(us || Qb8 us nm key sg pa ms)))=true then _ else _
  have hs1:(bif us then numS (some []) 1 1 else numS (Qb0 (some []) (Qb8 us nm key sg pa ms)) 0 1)=bif (us || Qb8 us nm key sg pa ms) then rawS (some []) [bif us then 1 else 0] else none:=by
    cases us with
    | true=>rfl
    | false =>
      cases Qb8 false nm key sg pa ms with
      | true=>rfl
      | false=>rfl
  rw [hs1]
  cases hb:(us || Qb8 us nm key sg pa ms) with
  | false =>
    rw [if_neg (by rw [Bool.and_false,Bool.and_false]; decide)]
    show ms.foldl Qcm (numS (Qb0 (rawS (rawS (rawS (numS none nm 1) key) sg) pa) (risV ms)) _ 1)=none
    have e1:numS none nm 1=none:=by rw [QcT _ nm 0 255 (by decide) (by decide)]; cases inB nm 255 <;> rfl
    rw [e1]
    have e2:Qb0 (rawS (rawS (rawS none key) sg) pa) (risV ms)=none:=by cases risV ms <;> rfl
    rw [e2,QcT _ _ 0 255 (by decide) (by decide)]
    cases inB ((ms.length:Nat):Int) 255 <;> exact Qb6 ms
  | true =>
    rw [Bool.and_true]
    show ms.foldl Qcm (numS (Qb0 (rawS (rawS (rawS (numS (rawS (some []) [bif us then 1 else 0]) nm 1) key) sg) pa) (risV ms)) _ 1)=_
    rw [QcT _ nm 0 255 (by decide) (by decide)]
    cases hn:inB nm 255 with
    | false =>
      rw [if_neg (by rw [Bool.false_and,Bool.false_and]; decide)]
      have e2:Qb0 (rawS (rawS (rawS (bif false then rawS (rawS (some []) [bif us then 1 else 0]) (beV nm (0+1)) else none) key) sg) pa) (risV ms)=none:=by cases risV ms <;> rfl
      rw [e2,QcT _ _ 0 255 (by decide) (by decide)]
      cases inB ((ms.length:Nat):Int) 255 <;> exact Qb6 ms
    | true =>
      rw [Bool.true_and]
      cases hr:risV ms with
      | false =>
        rw [if_neg (by rw [Bool.false_and,Bool.and_false]; decide)]
        show ms.foldl Qcm (numS none _ 1)=none
        rw [QcT _ _ 0 255 (by decide) (by decide)]
        cases inB ((ms.length:Nat):Int) 255 <;> exact Qb6 ms
      | true =>
        rw [Bool.true_and]
        show ms.foldl Qcm (numS (rawS (rawS (rawS (rawS (rawS (some []) [bif us then 1 else 0]) (beV nm 1)) key) sg) pa) ((ms.length:Nat):Int) (0+1))=_
        rw [QcT _ _ 0 255 (by decide) (by decide)]
        cases ha:allN ms ms.length with
        | false =>
          rw [if_neg (by rw [Bool.and_false]; decide)]
          cases inB ((ms.length:Nat):Int) 255 with
          | false=>exact Qb6 ms
          | true =>
            show ms.foldl Qcm (rawS _ (beV _ (0+1)))=none
            rw [leaves_eq,←hall,ha]
            rfl
        | true =>
          have hl:=QmG ms hr ha
          rw [decide_eq_true hl,if_pos (by rfl),show inB ((ms.length:Nat):Int) 255=true by unfold inB; simp; omega]
          show ms.foldl Qcm (rawS _ (beV _ (0+1)))=_
          rw [leaves_eq,←hall,ha]
          show rawS (rawS (rawS (rawS (rawS (rawS (some []) [bif us then 1 else 0]) (beV nm 1)) key) sg) pa) (beV ((ms.length:Nat):Int) 1++ms.map fun m=>byV m 0)=_
          rw [Qcv,Qcv,Qcv,Qcv,Qcv,QiN]
          have e:[bif us then 1 else 0]++(beV nm 1++(key++(sg++(pa++(beV ((ms.length:Nat):Int) 1++ms.map fun m=>byV m 0)))))=nodeV us nm key sg pa ms:=by
            unfold nodeV nodeH
            simp only [List.append_assoc]
            rfl
          rw [e]
          unfold fitV
          rw [if_pos (by rw [←e]; simp only [List.length_append,List.length_map,Qi0,hkl,hgl,hpl,List.length_cons,List.length_nil]; omega)]
theorem node_bytes (us : Bool) (nm:Int) (key sg pa ms:List Int) (hkb:Qax key) (hgb:Qax sg) (hpb:Qax pa):Qax (nodeV us nm key sg pa ms):=by
  unfold nodeV nodeH
  refine Qco (Qco (Qco (Qco (Qco ?_ hkb) hgb) hpb) (Qdx _ 1)) ?_
  · intro x hx
    rcases List.mem_cons.1 hx with h | h
    · rw [h]; cases us <;> decide
    · exact Qdx nm 1 x h
  · intro x hx
    obtain ⟨m,_,rfl⟩:=List.mem_map.1 hx
    exact Qdx m 1 _ List.mem_cons_self
end Go.Proofs.YthfkppjajmjpnaaDoor.Wr
end
section
namespace Go.Proofs.YthfkppjajmjpnaaDoor.Te
open Go Go.RowKit
open Rely Auto Own Seat Sha
def exc (ms wo:List Int):List Int:=ms.filter fun n=>decide (n∉wo)
theorem QgL {ms wo:List Int} {i:Nat} (h:i<ms.length):exc (ms.take (i+1)) wo=exc (ms.take i) wo++(if nth ms i∈wo then [] else [nth ms i]):=by
  unfold exc
  rw [List.take_add_one,List.filter_append,List.getElem?_eq_getElem h]
  have e:nth ms i=ms[i]:=by unfold nth; rw [List.getD_eq_getElem?_getD,List.getElem?_eq_getElem h]; rfl
  rw [e]
  congr 1
  by_cases q:ms[i]∈wo
  · rw [if_pos q]; simp [q]
  · rw [if_neg q]; simp [q]
theorem Qit {ms wo:List Int} {i:Nat} (h:i<ms.length) (q:nth ms i∈wo):exc (ms.take (i+1)) wo=exc (ms.take i) wo:=by rw [QgL h,if_pos q,List.append_nil]
theorem QjJ {ms wo:List Int} {i:Nat} (h:i<ms.length) (q:nth ms i∉wo):exc (ms.take (i+1)) wo=exc (ms.take i) wo++[nth ms i]:=by rw [QgL h,if_neg q]
theorem Qd9 (ms wo:List Int):(exc ms wo).length≤ms.length:=List.length_filter_le ..
theorem QgK (ms wo:List Int) (i:Nat):(exc (ms.take i) wo).length≤i:=qT (Qd9 _ _) (by rw [List.length_take]; omega)
def QaR (n : NdC):List Int:=Wr.nodeV n.us n.nm n.key n.sg n.pa n.ms
def gdN (n : NdC):Bool:=Wr.goodV n.us n.nm n.key n.sg n.pa n.ms
theorem Qcd {n : NdC} (h:NdOk n):Qax (QaR n):=Wr.node_bytes _ _ _ _ _ _ h.kb h.gb h.pb
theorem Qdn {n : NdC} (h:NdOk n):(QaR n).length=99+n.ms.length:=by
  unfold QaR Wr.nodeV Wr.nodeH
  simp only [List.length_append,List.length_cons,List.length_nil,List.length_map,h.kl,h.gl,h.pl]
theorem QhQ {n : NdC} (h:NdOk n) (g:gdN n=true):Wr.nodeS (some []) n.us n.nm n.key n.sg n.pa n.ms=some (QaR n):=by
  rw [Wr.nodeS_eq _ _ _ _ _ _ h.kl h.gl h.pl]
  unfold Wr.refN
  rw [if_pos (show Wr.goodV n.us n.nm n.key n.sg n.pa n.ms=true from g)]; rfl
theorem Qbp {a b:List Int} (ha:Qax a) (hb:Qax b):Qax (a++b):=fun y hy=>(List.mem_append.1 hy).elim (ha y) (hb y)
def Qfm (ts : List NdV) (wo:List Int) (x:Nat):NdC:=if ((x/2:Nat):Int)∈wo then zn.n else (ndi ts x).n
def Qdm (ts : List NdV) (wo:List Int) (x:Nat):NdC:={ (ndi ts x).n with ms:=exc (ndi ts x).n.ms wo }
def QcX (ts : List NdV) (wo:List Int) (x:Nat):List Int:=[1,IntKind.u8.wrap ((x/2:Nat):Int)]++QaR (Qfm ts wo x)
def txtN (ts : List NdV) (wo:List Int):Nat→Nat→List Int
  | 0,x=>QcX ts wo x
  | k+1,x=>if kidL ((x:Nat):Int)<0 then QcX ts wo x else (([2]++QaR (Qdm ts wo x))++dig (txtN ts wo k (kidL ((x:Nat):Int)).toNat))++dig (txtN ts wo k (kidR ((x:Nat):Int)).toNat)
theorem Qdd {ts : List NdV} {wo:List Int} {x:Nat} (k:Nat) (h:kidL ((x:Nat):Int)<0):txtN ts wo k x=QcX ts wo x:=by
  cases k with
  | zero=>rfl
  | succ k=>unfold txtN; rw [if_pos h]
theorem Qgy {ts : List NdV} {wo:List Int} {x l r:Nat} (k:Nat) (hl:kidL ((x:Nat):Int)=((l:Nat):Int)) (hr:kidR ((x:Nat):Int)=((r:Nat):Int)):txtN ts wo (k+1) x=(([2]++QaR (Qdm ts wo x))++dig (txtN ts wo k l))++dig (txtN ts wo k r):=by
  show (if _ then _ else _)=_
  rw [if_neg (by omega),hl,hr]; rfl
theorem NdOk.x {n : NdC} (h:NdOk n) (ms:List Int):NdOk { n with ms:=ms }:=⟨h.kl,h.gl,h.pl,h.kb,h.gb,h.pb⟩
theorem Qg6 {ts : List NdV} {wo:List Int} {x:Nat} (h:NdOk (ndi ts x).n):NdOk (Qfm ts wo x):=by
  unfold Qfm; split
  · exact Qe8
  · exact h
theorem Qfl {ts : List NdV} {wo:List Int} {x:Nat} (h:NdOk (ndi ts x).n):NdOk (Qdm ts wo x):=h.x _
theorem QiV (ts : List NdV) (wo:List Int) (x:Nat):(Qfm ts wo x).ms.length≤(ndi ts x).n.ms.length:=by
  unfold Qfm; split
  · exact Nat.zero_le _
  · exact qR _
theorem Qcn {ts : List NdV} {wo:List Int} {x:Nat} (h:NdOk (ndi ts x).n) (hm:(ndi ts x).n.ms.length≤50):(QcX ts wo x).length≤300:=by
  unfold QcX
  have:=QiV ts wo x
  rw [List.length_append,Qdn (Qg6 h)]
  simp only [List.length_cons,List.length_nil]; omega
theorem Qet {ts : List NdV} {wo:List Int} {x:Nat} (h:NdOk (ndi ts x).n):Qax (QcX ts wo x):=by
  unfold QcX
  refine Qbp (fun y hy=>?_) (Qcd (Qg6 h))
  simp only [List.mem_cons,List.not_mem_nil,or_false] at hy
  have e:IntKind.u8.wrap ((x/2:Nat):Int)=((x/2:Nat):Int)%2^8:=rfl
  rcases hy with rfl | rfl
  · decide
  · rw [e]; omega
theorem Qek {ms : List Int} (h:ms.Pairwise (· < ·)) (hb:∀ j∈ms,0≤j∧j<32):∀ n,n≤ms.length→Wr.goodN ms n=true
  | 0,_=>rfl
  | n+1,hn=>by
    unfold Wr.goodN
    have hj:=hb _ (Qc8 (show n<ms.length by omega))
    rw [Qek h hb n (by omega),Bool.true_and]
    have e1:Wr.inB (nth ms n) 31=true:=by unfold Wr.inB; rw [decide_eq_true hj.1,decide_eq_true (show nth ms n≤31 by omega)]; rfl
    rw [e1,Bool.true_and]
    by_cases q:n=0
    · rw [q]; rfl
    · rw [decide_eq_true (QkL h n (by omega) (n-1) (by omega)),Bool.or_true]
theorem Qil {n : NdC} (h1:0≤n.nm∧n.nm≤255) (h2:n.ms.Pairwise (· < ·)) (h3:∀ j∈n.ms,0≤j∧j<32) (h4:n.us=true):gdN n=true:=by
  unfold gdN Wr.goodV
  rw [Qek h2 h3 _ (qR _),decide_eq_true (QjD h2 h3),h4]
  have e1:Wr.inB n.nm 255=true:=by unfold Wr.inB; rw [decide_eq_true h1.1,decide_eq_true h1.2]; rfl
  rw [e1]; rfl
theorem Qik : gdN zn.n=true:=by decide +kernel
theorem QjI {ts : List NdV} {L x:Nat} (f:Form ts L) (hx:x<ts.length) (wo:List Int):gdN (Qdm ts wo x)=true:=by
  cases hu:(ndi ts x).n.us with
  | false =>
    unfold Qdm
    rw [f.zero x hx hu]
    exact Qik
  | true =>
    have hlen:=f.len
    by_cases ho:x%2=1
    · have h:=f.ms_lt hx ho hu
      have hu2:=f.up x hx ho hu
      refine Qil (n:=Qdm ts wo x) ⟨?_,?_⟩ (h.1.filter _) (fun j hj=>?_) hu
      · show 0≤(ndi ts x).n.nm; rw [hu2.nm]; decide
      · show (ndi ts x).n.nm≤255; rw [hu2.nm]; decide
      · have:=h.2 j (List.mem_filter.1 hj).1; omega
    · have e:x=2*(x/2):=by omega
      have h:=f.leaf (x/2) (by omega) (by rw [←e]; exact hu)
      rw [←e] at h
      unfold QbT at h
      simp only [Bool.and_eq_true,beq_iff_eq,decide_eq_true_eq] at h
      have hm:(ndi ts x).n.ms=[]:=List.length_eq_zero_iff.1 h.1.1.2
      refine Qil (n:=Qdm ts wo x) ⟨h.1.2,h.2⟩ ?_ ?_ hu
      · unfold Qdm; rw [hm]; exact List.Pairwise.nil
      · unfold Qdm; rw [hm]; intro j hj; cases hj
theorem QhR (ts : List NdV) (x:Nat):Qdm ts [] x=(ndi ts x).n:=by
  unfold Qdm exc
  rw [List.filter_eq_self.2 (by intro a _; simp)]
def ShT (W : World):Prop:=∃ tc tq,W.heap[2]? = some (.cells (ints .u64 Qbn) tc)∧W.heap[0]? = some (.cells (ints .u64 QaQ) tq)
theorem ShT.ext {w W:World} (h:ShT w) (e:Ext w W):ShT W:=by
  obtain ⟨tc,tq,h1,h2⟩:=h
  exact ⟨tc,tq,Qae h1 e,Qae h2 e⟩
end Go.Proofs.YthfkppjajmjpnaaDoor.Te
end
section
namespace Go.Proofs.YthfkppjajmjpnaaDoor.Te
open Go Go.RowKit
open Rely Auto Own Seat Sha
theorem Qdv (xs : List Int) (n:Int) (a_x:Option Addr) (c_x B1:Nat) (w:World) (hxl:xs.length≤1000000) (hx:RdK .i64 B1 xs (.slice a_x xs.length c_x) w) (b:Bool) (h:decide (n∈xs)=b):Calls Tryd.prog 48 #[.slice a_x xs.length c_x,.int .i64 n] w (Ret w (.bool b)):=h▸QfR xs n a_x c_x B1 w hxl hx
theorem excP (ms : List Int) (a_m:Option Addr) (c_m Bm:Nat) (wo:List Int) (a_o:Option Addr) (c_o Bo:Nat) (w:World) (hml:ms.length≤1000000) (hm:RdK .i64 Bm ms (.slice a_m ms.length c_m) w) (hol:wo.length≤1000000) (ho:RdK .i64 Bo wo (.slice a_o wo.length c_o) w):Calls Tryd.prog 51 #[.slice a_m ms.length c_m,.slice a_o wo.length c_o] w (Qbs w (OwnN .i64 3 w.heap.size (exc ms wo))):=by
 refine enter 24 [(0,.slice a_m ms.length c_m),(1,.slice a_o wo.length c_o)] Tryd.func51 rfl rfl kj rfl <| sgB kj <| sgB kj <| wp_seq_k fun K3 hK3=>sgB kj <| wp_block <| Qay (fun (s1:Nat×Value)=>[(1,.slice a_o wo.length c_o),(8,.slice a_m ms.length c_m),(9,.int .i64 ((ms.length:Nat):Int)),(5,s1.2),(10,.int .i64 ((s1.1:Nat):Int))]) (fun (s1:Nat×Value) W=>(s1.1≤ms.length)∧(OwnN .i64 3 w.heap.size (exc (ms.take s1.1) wo) s1.2 W)∧(Below w.heap.size w W)∧(Ext w W)) (fun (s1:Nat×Value)=>ms.length-s1.1) (0,(.slice none 0 0)) ⟨kj,kj,kj,kj,kj,trivial⟩ ⟨(Nat.zero_le _),(QbM _ _ _ _),(RowKit.Below.refl _ w),(Rely.Ext.refl w)⟩ fun s1 X1 V1 hI1=>?_
 obtain ⟨k,u⟩:=s1
 obtain ⟨hk,hu,kk1,xx1⟩:=hI1
 replace hk:k≤ms.length:=hk
 replace hu:OwnN .i64 3 w.heap.size (exc (ms.take k) wo) u V1:=hu
 replace kk1:Below w.heap.size w V1:=kk1
 replace xx1:Ext w V1:=xx1
 have l1:=kk1
 refine sgB kj <| wp_seq_k fun K6 hK6=>Qaq (t:=decide (((k:Nat):Int)<((ms.length:Nat):Int))) kj (fun c7=>?_) (fun c7=>?_)
 ·skip
  have hlt11:k<ms.length:=by have:=of_decide_eq_true c7; omega
  have hnx_8:(ms).length=ms.length:=rfl
  obtain ⟨gcx_8,ocx_8,hax_8,hlx_8,hcx_8⟩:=QaO (RdK.here (RdK.ext hm xx1)) (by rw [hnx_8]; omega)
  refine wp_skip <| hK6 _ _ <| wp_seq_k fun K9 hK9=>wp_block <| sgC fun K10 hK10=>Qaa (.pointer (some ⟨gcx_8,ocx_8+k,none⟩)) 12 rfl kj (Qa1 24 _ _ .i64 k gcx_8 ocx_8 ms.length c_m 3 a_m _ hax_8 rfl rfl kj kj kj kj (Nat.lt_of_lt_of_eq (show k<ms.length by omega) hnx_8.symm)) <| Qaa (.int .i64 (nth (ms) (k))) 13 rfl kj (Qai 3 _ _ (.int .i64 (nth (ms) (k))) (hcx_8 k (Nat.lt_of_lt_of_eq (show k<ms.length by omega) hnx_8.symm)) rfl kj kj) <| sg 1 kj <| sgN hK10 <| wp_seq_k fun K11 hK11=>?_
  by_cases hq:nth ms k∈wo
  ·skip
   refine Qad <| sg 2 kj <| Qak (.bool true) 48 #[.slice a_o wo.length c_o,.int .i64 (nth (ms) (k))] 16 rfl kj kj (Qdv wo (nth ms k) a_o c_o _ _ hol (RdK.here (RdK.ext ho xx1)) true (decide_eq_true hq)) fun W2 e2=>?_
   have x2:=Ext.tr xx1 e2
   refine sg 1 kj <| sgN hK11 <| cond_false kj <| wp_skip <| hK9 _ _ <| Qad <| Qaa (.int .i64 ((k+1:Nat):Int)) 22 rfl kj (Qag (u:=.int .i64 (IntKind.i64.wrap (((k:Nat):Int)+1))) kj (congrArg (Value.int .i64) (i64n _ _ (by omega) (by omega)))) <| sg 1 kj <| Qaj ?_
   have y0_1:=(Ext.low (Rely.Ext.refl w) l1 (Rely.Ext.refl w).size)
   repeat (first | with_reducible refine goX1 ?_ | with_reducible refine goX2 ?_ | with_reducible refine goX3 ?_)
   exact Qap ((k+1),u) ⟨kj,kj,kj,kj,kj,trivial⟩ ⟨(by omega),(by rw [Qit (by omega) hq]; exact (hu.ext e2)),(RowKit.Below.trans l1 (RowKit.Below.mono e2 y0_1.size)),x2⟩ (by show ms.length-(k+1)<ms.length-k; omega)
  ·skip
   refine Qad <| sg 2 kj <| Qak (.bool false) 48 #[.slice a_o wo.length c_o,.int .i64 (nth (ms) (k))] 16 rfl kj kj (Qdv wo (nth ms k) a_o c_o _ _ hol (RdK.here (RdK.ext ho xx1)) false (decide_eq_false hq)) fun W2 e2=>?_
   have x2:=Ext.tr xx1 e2
   refine sg 1 kj <| sgN hK11 <| cond_true kj <| Qad <| sg 2 kj <| Qa9 (ints .i64 ([(nth (ms) (k))])) 3 1 20 rfl kj kj fun g13 W3 l13 e3 r13_3=>?_
   have b13:=qT x2.size l13
   have y0_1:=(Ext.low (Rely.Ext.refl w) l1 (Rely.Ext.refl w).size)
   have y0_2:=(Rely.Ext.trans y0_1 e2)
   refine QaC (k:=.i64) (T:=3) (xs:=exc (ms.take k) wo) (ys:=[nth ms k]) (V:=w) 8 (.tmp 18) (.tmp 20) 24 rfl kj kj (by decide) 21 rfl kj kj kj ((hu.ext e2).ext e3) (QaJ (xs:=[(nth (ms) (k))]) (n:=1) rfl r13_3 (Qa5 r13_3) (show 1≤maxLen from by decide)) (by have h9:=QgK ms wo k; show (exc (ms.take k) wo).length+1≤1000000000; omega) (Rely.Ext.trans y0_2 e3) fun u2 W4 f16 y4 l4=>?_
   refine sg 1 kj <| Qaj <| hK9 _ _ <| Qad <| Qaa (.int .i64 ((k+1:Nat):Int)) 22 rfl kj (Qag (u:=.int .i64 (IntKind.i64.wrap (((k:Nat):Int)+1))) kj (congrArg (Value.int .i64) (i64n _ _ (by omega) (by omega)))) <| sg 1 kj <| Qaj ?_
   repeat (first | with_reducible refine goX1 ?_ | with_reducible refine goX2 ?_ | with_reducible refine goX3 ?_)
   exact Qap ((k+1),u2) ⟨kj,kj,kj,kj,kj,trivial⟩ ⟨(by omega),(by rw [QjJ (by omega) hq]; exact f16),(RowKit.Below.trans (RowKit.Below.trans (RowKit.Below.trans l1 (RowKit.Below.mono e2 y0_1.size)) (RowKit.Below.mono e3 y0_2.size)) l4),(Ext.low (Ext.tr x2 e3) l4 (Rely.Ext.refl w).size)⟩ (by show ms.length-(k+1)<ms.length-k; omega)
 ·skip
  have heq11:k=ms.length:=by have:=of_decide_eq_false c7; omega
  refine wp_exit <| hK3 _ _ <| sgB kj <| wp_ret ?_
  repeat (first | with_reducible refine goR1 ?_ | with_reducible refine goR2 ?_)
  exact (show bodyPost _ _ _ .ret _ _ from ret1 (u) rfl (Qar kj) ⟨u,rfl,xx1,by have h9:=hu; rw [heq11,List.take_length] at h9; exact h9⟩)
theorem bofP (nd : NdV) (hok:NdOk nd.n) (B:Nat) (w:World) (hml:nd.n.ms.length≤1000000) (hr:RdK .i64 B nd.n.ms (.slice nd.a nd.n.ms.length nd.c) w) (hg:gdN nd.n=true):Calls Tryd.prog 50 #[.agg (cat (ndP nd))] w (Qbs w (OwnN .u8 5 w.heap.size (QaR nd.n))):=by
  refine enter 13 [(0,.agg (cat [#[.bool nd.n.us],#[.int .i64 nd.n.nm],ints .u8 (nd.n.key),ints .u8 (nd.n.sg),ints .u8 (nd.n.pa),#[.slice nd.a nd.n.ms.length nd.c]]))] Tryd.func50 rfl rfl kj rfl <| sgC fun K1 hK1=>Qal (cat [#[.bool nd.n.us],#[.int .i64 nd.n.nm],ints .u8 (nd.n.key),ints .u8 (nd.n.sg),ints .u8 (nd.n.pa),#[.slice nd.a nd.n.ms.length nd.c]]) 50 1 rfl kj kj fun g2 W1 l2 e1 r2_1=>?_
  have x1:=Ext.tr (Rely.Ext.refl w) e1
  have b2:=qT (Rely.Ext.refl w).size l2
  refine sg 1 kj <| sgN hK1 <| sgC fun K3 hK3=>Qaa (.agg (cat [#[.bool nd.n.us],#[.int .i64 nd.n.nm],ints .u8 (nd.n.key),ints .u8 (nd.n.sg),ints .u8 (nd.n.pa),#[.slice nd.a nd.n.ms.length nd.c]])) 6 rfl kj (QaA 50 _ g2 50 _ _ r2_1 rfl kj kj (isz (n:=99) kj (by rw [Qab,Qab,Qab,Qab,Qab,Qab]; simp only [qS,cat,((Qac _ _).trans hok.gl),((Qac _ _).trans hok.kl),((Qac _ _).trans hok.pl)]; rfl))) ?_
  refine Qa0 (fun v W'=>(fun v W9=>∃ u,v=.tuple #[u,.nilIface]∧OwnN .u8 5 W1.heap.size (QaR nd.n) u W9) v W'∧Ext W1 W') 70 #[.agg (cat [#[.bool nd.n.us],#[.int .i64 nd.n.nm],ints .u8 (nd.n.key),ints .u8 (nd.n.sg),ints .u8 (nd.n.pa),#[.slice nd.a nd.n.ms.length nd.c]])] 7 rfl kj kj ((Wr.PutNode_S nd.n.us nd.n.nm nd.n.key nd.n.sg nd.n.pa nd.n.ms _ _ _ hok.kl hok.gl hok.pl hok.kb hok.gb hok.pb hml (RdK.here (RdK.ext hr x1)) (QaR nd.n) (QhQ hok hg)).mono (by rintro e w' ⟨v,rfl,e1,hv⟩; exact ⟨v,rfl,hv,e1⟩)) fun vv4 W2 hh4=>?_
  obtain ⟨hv4,e2⟩:=hh4
  obtain ⟨u1,rfl,hu1⟩:=hv4
  obtain ⟨ab_,cb_,rfl,-⟩:=id (OwnN.rd hu1)
  refine sg 5 kj <| sgN hK3 <| wp_seq_k fun K5 hK5=>sgB kj <| cond_false kj <| wp_skip <| hK5 _ _ <| sgB kj <| wp_ret ?_
  repeat (first | with_reducible refine goR1 ?_ | with_reducible refine goR2 ?_)
  exact (show bodyPost _ _ _ .ret _ _ from ret1 (.slice ab_ ((QaR nd.n).length) cb_) rfl (Qar kj) ⟨_,rfl,(Ext.tr x1 e2),OwnN.base x1.size hu1⟩)
end Go.Proofs.YthfkppjajmjpnaaDoor.Te
end
section
namespace Go.Proofs.YthfkppjajmjpnaaDoor.Te
open Go Go.RowKit
open Rely Auto Own Seat Sha
theorem QcF (xs : List Int) (h:(xs.all fun x=>decide (0≤x)&&decide (x≤255))=true):Qax xs:=fun x hx=>by
  have:=List.all_eq_true.1 h x hx
  simp only [Bool.and_eq_true,decide_eq_true_eq] at this
  omega
theorem Qju (x : Nat):Qax [1,IntKind.u8.wrap (((x/2:Nat):Int))]:=fun y hy=>by
  simp only [List.mem_cons,List.not_mem_nil,or_false] at hy
  have e:IntKind.u8.wrap ((x/2:Nat):Int)=((x/2:Nat):Int)%2^8:=rfl
  rcases hy with rfl | rfl
  · decide
  · rw [e]; omega
set_option maxRecDepth 100000 in
theorem QjK (ts : List NdV) (a_t:Option Addr) (c_t B1:Nat) (htl:ts.length≤100000) (hmt:∀ i,i<ts.length→(ndi ts i).n.ms.length≤50) (L:Nat) (f:Form ts L) (ok0:∀ x,x<ts.length→NdOk (ndi ts x).n) (wo:List Int) (a_o:Option Addr) (c_o Bo:Nat) (w:World) (ht:TrAt B1 w a_t ts) (hT:TabAt w) (hSh:ShT w) (hol:wo.length≤1000000) (ho:RdK .i64 Bo wo (.slice a_o wo.length c_o) w) (k x:Nat) (hx:x<ts.length) (hk0:kidL ((x:Nat):Int)<0) (hkid:∀ W,TabAt W→Calls Tryd.prog 36 #[.int .i64 ((x:Nat):Int)] W (Ret W (.tuple #[.int .i64 (-1),.int .i64 (-1)]))):Calls Tryd.prog 27 #[.slice a_t ts.length c_t,.int .i64 ((x:Nat):Int),.slice a_o wo.length c_o] w (Ret w (.agg (ints .u8 (dig (txtN ts wo k x))))):=by
 obtain ⟨tc,tq,hc,hq⟩:=id hSh
 refine enter 61 [(0,.slice a_t ts.length c_t),(1,.int .i64 ((x:Nat):Int)),(2,.slice a_o wo.length c_o)] Tryd.func27 rfl rfl kj rfl <| sgC fun K3 hK3=>Qal (ints .u8 (List.replicate 32 0)) 28 6 rfl kj kj fun g4 W1 l4 e1 r4_1=>?_
 have x1:=Ext.tr (Rely.Ext.refl w) e1
 have b4:=qT (Rely.Ext.refl w).size l4
 refine sgN hK3 <| sgC fun K5 hK5=>sg 1 kj <| Qak (.tuple #[.int .i64 (-1),.int .i64 (-1)]) 36 #[.int .i64 ((x:Nat):Int)] 15 rfl kj kj (hkid _ (TabAt.ext hT x1)) fun W2 e2=>?_
 have x2:=Ext.tr x1 e2
 refine sg 5 kj <| sgN hK5 <| wp_seq_k fun K6 hK6=>sgB kj <| cond_true kj <| sgC fun K8 hK8=>sg 2 kj ?_
 obtain ⟨gtT,otT,hat,hnts⟩:=TrAt.ext ht x2
 have hnt:=hnts x (by omega)
 obtain ⟨nt,ent⟩:∃ z,z=ndi ts x:=⟨_,rfl⟩
 rw [←ent] at hnt
 have okt:=hnt.ok
 have rdt:=hnt.rd
 refine Qaa (.pointer (some ⟨gtT,otT+x*99,none⟩)) 22 rfl kj (Qan 23 _ _ .i64 x gtT otT ts.length c_t 50 99 a_t (hat (by omega)) rfl kj kj kj kj (by omega)) <| Qaa (.agg (cat [#[.bool nt.n.us],#[.int .i64 nt.n.nm],ints .u8 (nt.n.key),ints .u8 (nt.n.sg),ints .u8 (nt.n.pa),#[.slice nt.a nt.n.ms.length nt.c]])) 23 rfl kj (QaI 50 _ gtT (otT+x*99) nt hnt rfl kj kj kj) <| Qal (cat [#[.bool false],#[.int .i64 0],ints .u8 (List.replicate 32 0),ints .u8 (List.replicate 32 0),ints .u8 (List.replicate 32 0),#[.slice none 0 0]]) 50 9 rfl kj kj fun g9 W3 l9 e3 r9_3=>?_
 have b9:=qT x2.size l9
 refine Qav g9 _ (cat [#[.bool nt.n.us],#[.int .i64 nt.n.nm],ints .u8 (nt.n.key),ints .u8 (nt.n.sg),ints .u8 (nt.n.pa),#[.slice nt.a nt.n.ms.length nt.c]]) 50 r9_3 rfl kj (Qat 50 _ _ g9 50 _ _ r9_3 rfl kj kj (isz (n:=99) kj (by rw [Qab,Qab,Qab,Qab,Qab,Qab]; simp only [qS,cat,((Qac _ _).trans okt.gl),((Qac _ _).trans okt.kl),((Qac _ _).trans okt.pl)]; rfl)) (eqsz (n:=99) (by rw [Qab,Qab,Qab,Qab,Qab,Qab]; simp only [qS,cat,((Qac _ _).trans (qZ (n:=32)))]; rfl) (by rw [Qab,Qab,Qab,Qab,Qab,Qab]; simp only [qS,cat,((Qac _ _).trans okt.gl),((Qac _ _).trans okt.kl),((Qac _ _).trans okt.pl)]; rfl)) (Qbo _ (by intro a ha; simp only [List.mem_cons,List.not_mem_nil,or_false] at ha; rcases ha with rfl | rfl | rfl | rfl | rfl | rfl; exact (Qa7 _ rfl); exact (Qa7 _ rfl); exact (Qau _ _); exact (Qau _ _); exact (Qau _ _); exact (Qa7 _ rfl)))) fun W4 p4 r9_4=>?_
 have x4:=Puts.ext p4 (Ext.tr x2 e3) b9
 refine sgN hK8 <| wp_seq_k fun K10 hK10=>wp_seq_k fun K11 hK11=>?_
 have hgt:gdN nt.n=true:=by have h9:=QjI f hx []; rw [QhR,←ent] at h9; exact h9
 have hb1:=Qju x
 by_cases hqm:((x/2:Nat):Int)∈wo
 ·skip
  refine Qad <| sg 2 kj <| Qaa (.int .i64 ((x/2:Nat):Int)) 26 rfl kj (Qag (u:=.int .i64 (IntKind.i64.wrap (Int.tdiv (((x:Nat):Int)) (2)))) kj (congrArg (Value.int .i64) (Qb7 _ 2 (by omega)))) <| Qak (.bool true) 48 #[.slice a_o wo.length c_o,.int .i64 ((x/2:Nat):Int)] 27 rfl kj kj (Qdv wo (((x/2:Nat):Int)) a_o c_o _ _ hol (RdK.here (RdK.ext ho x4)) true (decide_eq_true hqm)) fun W5 e5=>?_
  have x5:=Ext.tr x4 e5
  refine sgN hK11 <| cond_true kj <| Qad <| sg 1 kj ?_
  have r9_5:=(Qae r9_4 e5)
  refine Qav g9 _ (cat [#[.bool false],#[.int .i64 0],ints .u8 (List.replicate 32 0),ints .u8 (List.replicate 32 0),ints .u8 (List.replicate 32 0),#[.slice none 0 0]]) 50 r9_5 rfl kj (Qat 50 _ _ g9 50 _ _ r9_5 rfl kj kj (isz (n:=99) kj (by rw [Qab,Qab,Qab,Qab,Qab,Qab]; simp only [qS,cat,((Qac _ _).trans (qZ (n:=32)))]; rfl)) (eqsz (n:=99) (by rw [Qab,Qab,Qab,Qab,Qab,Qab]; simp only [qS,cat,((Qac _ _).trans okt.gl),((Qac _ _).trans okt.kl),((Qac _ _).trans okt.pl)]; rfl) (by rw [Qab,Qab,Qab,Qab,Qab,Qab]; simp only [qS,cat,((Qac _ _).trans (qZ (n:=32)))]; rfl)) (Qbo _ (by intro a ha; simp only [List.mem_cons,List.not_mem_nil,or_false] at ha; rcases ha with rfl | rfl | rfl | rfl | rfl | rfl; exact (Qa7 _ rfl); exact (Qa7 _ rfl); exact (Qau _ _); exact (Qau _ _); exact (Qau _ _); exact (Qa7 _ rfl)))) fun W6 p6 r9_6=>?_
  have x6:=Puts.ext p6 x5 b9
  refine Qaj <| hK10 _ _ <| sgC fun K12 hK12=>sg 1 kj <| Qaa (.int .i64 ((x/2:Nat):Int)) 30 rfl kj (Qag (u:=.int .i64 (IntKind.i64.wrap (Int.tdiv (((x:Nat):Int)) (2)))) kj (congrArg (Value.int .i64) (Qb7 _ 2 (by omega)))) <| sg 1 kj <| Qa9 (ints .u8 ([1,(IntKind.u8.wrap ((x/2:Nat):Int))])) 5 2 32 rfl kj kj fun g13 W7 l13 e7 r13_7=>?_
  have x7:=Ext.tr x6 e7
  have b13:=qT x6.size l13
  refine Qaa (.agg (cat [#[.bool false],#[.int .i64 0],ints .u8 (List.replicate 32 0),ints .u8 (List.replicate 32 0),ints .u8 (List.replicate 32 0),#[.slice none 0 0]])) 33 rfl kj (QaA 50 _ g9 50 _ _ (Qae r9_6 e7) rfl kj kj (isz (n:=99) kj (by rw [Qab,Qab,Qab,Qab,Qab,Qab]; simp only [qS,cat,((Qac _ _).trans (qZ (n:=32)))]; rfl))) ?_
  refine Qa0 (fun v W'=>(OwnN .u8 5 W7.heap.size (QaR zn.n)) v W'∧Ext W7 W') 50 #[.agg (cat [#[.bool false],#[.int .i64 0],ints .u8 (List.replicate 32 0),ints .u8 (List.replicate 32 0),ints .u8 (List.replicate 32 0),#[.slice none 0 0]])] 34 rfl kj kj ((bofP zn Qe8 _ _ (by decide) (QeK 0 _) Qik).mono (by rintro e w' ⟨v,rfl,e1,hv⟩; exact ⟨v,rfl,hv,e1⟩)) fun vv14 W8 hh14=>?_
  obtain ⟨hv14,e8⟩:=hh14
  have x8:=Ext.tr x7 e8
  obtain ⟨ab_,cb_,rfl,-⟩:=id (OwnN.rd hv14)
  refine Qa9 (#[.slice (some ⟨g13,0,none⟩) 2 2,.slice ab_ ((QaR zn.n).length) cb_]) 59 2 35 rfl kj kj fun g15 W9 l15 e9 r15_9=>?_
  have x9:=Ext.tr x8 e9
  have b15:=qT x8.size l15
  have hXL:([1,(IntKind.u8.wrap ((x/2:Nat):Int))])++(QaR zn.n)=QcX ts wo x:=by unfold QcX Qfm; rw [if_pos hqm]
  have r13_9:=(Qae (Qae r13_7 e8) e9)
  have r1_1:=(Qae hc e1)
  have r1_2:=(Qae r1_1 e2)
  have r1_3:=(Qae r1_2 e3)
  have r1_4:=(Puts.row p4 r1_3 (Qaw r1_2 l9))
  have r1_5:=(Qae r1_4 e5)
  have r1_6:=(Puts.row p6 r1_5 (Qaw r1_2 l9))
  have r1_7:=(Qae r1_6 e7)
  have r1_8:=(Qae r1_7 e8)
  have r2_1:=(Qae hq e1)
  have r2_2:=(Qae r2_1 e2)
  have r2_3:=(Qae r2_2 e3)
  have r2_4:=(Puts.row p4 r2_3 (Qaw r2_2 l9))
  have r2_5:=(Qae r2_4 e5)
  have r2_6:=(Puts.row p6 r2_5 (Qaw r2_2 l9))
  have r2_7:=(Qae r2_6 e7)
  have r2_8:=(Qae r2_7 e8)
  have hps17:∀ p∈([(.slice (some ⟨g13,0,none⟩) 2 2,[1,(IntKind.u8.wrap ((x/2:Nat):Int))]),(.slice ab_ ((QaR zn.n).length) cb_,QaR zn.n)]:List (Value×List Int)),RdK .u8 W9.heap.size p.2 p.1 W9∧Qax p.2:=by
   intro p hp
   simp only [List.mem_cons,List.not_mem_nil,or_false] at hp
   rcases hp with rfl | rfl
   ·exact ⟨RdK.here (QaJ (xs:=[1,(IntKind.u8.wrap ((x/2:Nat):Int))]) (n:=2) rfl r13_9 (Qa5 r13_9) (show 2≤maxLen from by decide)),hb1⟩
   ·exact ⟨RdK.here (OwnN.rd (hv14.ext e9)),(Qcd Qe8)⟩
  have hsh17:=Qgz g15 2 _ ([(.slice (some ⟨g13,0,none⟩) 2 2,[1,(IntKind.u8.wrap ((x/2:Nat):Int))]),(.slice ab_ ((QaR zn.n).length) cb_,QaR zn.n)]:List (Value×List Int)) rfl (by decide) tc tq W9 (Qae r1_8 e9) (Qae r2_8 e9) r15_9 hps17 (by rw [show ((List.map Prod.snd ([(.slice (some ⟨g13,0,none⟩) 2 2,[1,(IntKind.u8.wrap ((x/2:Nat):Int))]),(.slice ab_ ((QaR zn.n).length) cb_,QaR zn.n)]:List (Value×List Int))).flatten)=([1,(IntKind.u8.wrap ((x/2:Nat):Int))])++(QaR zn.n) by simp only [List.map_cons,List.map_nil,List.flatten_cons,List.flatten_nil,List.append_nil,List.append_assoc,List.cons_append,List.nil_append]]; (rw [hXL]; have h9:=Qcn (wo:=wo) (ok0 x hx) (hmt x hx); omega))
  rw [show ((List.map Prod.snd ([(.slice (some ⟨g13,0,none⟩) 2 2,[1,(IntKind.u8.wrap ((x/2:Nat):Int))]),(.slice ab_ ((QaR zn.n).length) cb_,QaR zn.n)]:List (Value×List Int))).flatten)=([1,(IntKind.u8.wrap ((x/2:Nat):Int))])++(QaR zn.n) by simp only [List.map_cons,List.map_nil,List.flatten_cons,List.flatten_nil,List.append_nil,List.append_assoc,List.cons_append,List.nil_append]] at hsh17
  refine Qak (.agg (ints .u8 (dig (([1,(IntKind.u8.wrap ((x/2:Nat):Int))])++(QaR zn.n))))) 49 #[.slice (some ⟨g15,0,none⟩) 2 2] 36 rfl kj kj hsh17 fun W10 e10=>?_
  have x10:=Ext.tr x9 e10
  have r4_2:=(Qae r4_1 e2)
  have r4_3:=(Qae r4_2 e3)
  have r4_4:=(Puts.row p4 r4_3 (Qaw r4_2 l9))
  have r4_5:=(Qae r4_4 e5)
  have r4_6:=(Puts.row p6 r4_5 (Qaw r4_2 l9))
  have r4_7:=(Qae r4_6 e7)
  have r4_8:=(Qae r4_7 e8)
  have r4_9:=(Qae r4_8 e9)
  have r4_10:=(Qae r4_9 e10)
  refine Qav g4 _ (ints .u8 (dig (([1,(IntKind.u8.wrap ((x/2:Nat):Int))])++(QaR zn.n)))) 28 r4_10 rfl kj (Qat 28 _ _ g4 28 _ _ r4_10 rfl kj kj (isz (n:=32) kj ((Qac _ _).trans (QaG _))) (eqsz (n:=32) ((Qac _ _).trans (qZ (n:=32))) ((Qac _ _).trans (QaG _))) (Qau _ _)) fun W11 p11 r4_11=>sgN hK12 <| wp_ret ?_
  repeat (first | with_reducible refine goR1 ?_ | with_reducible refine goR2 ?_)
  exact (show bodyPost _ _ _ .ret _ _ from ret1 (.agg (ints .u8 (dig (([1,(IntKind.u8.wrap ((x/2:Nat):Int))])++(QaR zn.n))))) rfl (Qbv g4 28 _ r4_11 kj kj (isz (n:=32) kj ((Qac _ _).trans (QaG _)))) ⟨congrArg (fun z=>Ending.returned (.agg (ints .u8 (dig z)))) (hXL.trans (Qdd k hk0).symm),(Puts.ext p11 x10 b4)⟩)
 ·skip
  refine Qad <| sg 2 kj <| Qaa (.int .i64 ((x/2:Nat):Int)) 26 rfl kj (Qag (u:=.int .i64 (IntKind.i64.wrap (Int.tdiv (((x:Nat):Int)) (2)))) kj (congrArg (Value.int .i64) (Qb7 _ 2 (by omega)))) <| Qak (.bool false) 48 #[.slice a_o wo.length c_o,.int .i64 ((x/2:Nat):Int)] 27 rfl kj kj (Qdv wo (((x/2:Nat):Int)) a_o c_o _ _ hol (RdK.here (RdK.ext ho x4)) false (decide_eq_false hqm)) fun W5 e5=>?_
  have x5:=Ext.tr x4 e5
  refine sgN hK11 <| cond_false kj <| wp_skip <| hK10 _ _ <| sgC fun K18 hK18=>sg 1 kj <| Qaa (.int .i64 ((x/2:Nat):Int)) 30 rfl kj (Qag (u:=.int .i64 (IntKind.i64.wrap (Int.tdiv (((x:Nat):Int)) (2)))) kj (congrArg (Value.int .i64) (Qb7 _ 2 (by omega)))) <| sg 1 kj <| Qa9 (ints .u8 ([1,(IntKind.u8.wrap ((x/2:Nat):Int))])) 5 2 32 rfl kj kj fun g19 W6 l19 e6 r19_6=>?_
  have x6:=Ext.tr x5 e6
  have b19:=qT x5.size l19
  have r9_5:=(Qae r9_4 e5)
  have r9_6:=(Qae r9_5 e6)
  refine Qaa (.agg (cat [#[.bool nt.n.us],#[.int .i64 nt.n.nm],ints .u8 (nt.n.key),ints .u8 (nt.n.sg),ints .u8 (nt.n.pa),#[.slice nt.a nt.n.ms.length nt.c]])) 33 rfl kj (QaA 50 _ g9 50 _ _ r9_6 rfl kj kj (isz (n:=99) kj (by rw [Qab,Qab,Qab,Qab,Qab,Qab]; simp only [qS,cat,((Qac _ _).trans okt.gl),((Qac _ _).trans okt.kl),((Qac _ _).trans okt.pl)]; rfl))) ?_
  refine Qa0 (fun v W'=>(OwnN .u8 5 W6.heap.size (QaR nt.n)) v W'∧Ext W6 W') 50 #[.agg (cat [#[.bool nt.n.us],#[.int .i64 nt.n.nm],ints .u8 (nt.n.key),ints .u8 (nt.n.sg),ints .u8 (nt.n.pa),#[.slice nt.a nt.n.ms.length nt.c]])] 34 rfl kj kj ((bofP nt okt _ _ (qT (ent▸hmt x hx) (by decide)) (RdK.here (RdK.ext rdt (Rely.Ext.trans (Rely.Ext.trans (Puts.ext p4 (Rely.Ext.trans (Rely.Ext.refl W2) e3) l9) e5) e6))) hgt).mono (by rintro e w' ⟨v,rfl,e1,hv⟩; exact ⟨v,rfl,hv,e1⟩)) fun vv20 W7 hh20=>?_
  obtain ⟨hv20,e7⟩:=hh20
  have x7:=Ext.tr x6 e7
  obtain ⟨ab_,cb_,rfl,-⟩:=id (OwnN.rd hv20)
  refine Qa9 (#[.slice (some ⟨g19,0,none⟩) 2 2,.slice ab_ ((QaR nt.n).length) cb_]) 59 2 35 rfl kj kj fun g21 W8 l21 e8 r21_8=>?_
  have x8:=Ext.tr x7 e8
  have b21:=qT x7.size l21
  have hXL:([1,(IntKind.u8.wrap ((x/2:Nat):Int))])++(QaR nt.n)=QcX ts wo x:=by unfold QcX Qfm; rw [if_neg hqm,ent]
  have r19_8:=(Qae (Qae r19_6 e7) e8)
  have r1_1:=(Qae hc e1)
  have r1_2:=(Qae r1_1 e2)
  have r1_3:=(Qae r1_2 e3)
  have r1_4:=(Puts.row p4 r1_3 (Qaw r1_2 l9))
  have r1_5:=(Qae r1_4 e5)
  have r1_6:=(Qae r1_5 e6)
  have r1_7:=(Qae r1_6 e7)
  have r1_8:=(Qae r1_7 e8)
  have r2_1:=(Qae hq e1)
  have r2_2:=(Qae r2_1 e2)
  have r2_3:=(Qae r2_2 e3)
  have r2_4:=(Puts.row p4 r2_3 (Qaw r2_2 l9))
  have r2_5:=(Qae r2_4 e5)
  have r2_6:=(Qae r2_5 e6)
  have r2_7:=(Qae r2_6 e7)
  have r2_8:=(Qae r2_7 e8)
  have hps23:∀ p∈([(.slice (some ⟨g19,0,none⟩) 2 2,[1,(IntKind.u8.wrap ((x/2:Nat):Int))]),(.slice ab_ ((QaR nt.n).length) cb_,QaR nt.n)]:List (Value×List Int)),RdK .u8 W8.heap.size p.2 p.1 W8∧Qax p.2:=by
   intro p hp
   simp only [List.mem_cons,List.not_mem_nil,or_false] at hp
   rcases hp with rfl | rfl
   ·exact ⟨RdK.here (QaJ (xs:=[1,(IntKind.u8.wrap ((x/2:Nat):Int))]) (n:=2) rfl r19_8 (Qa5 r19_8) (show 2≤maxLen from by decide)),hb1⟩
   ·exact ⟨RdK.here (OwnN.rd (hv20.ext e8)),(Qcd okt)⟩
  have hsh23:=Qgz g21 2 _ ([(.slice (some ⟨g19,0,none⟩) 2 2,[1,(IntKind.u8.wrap ((x/2:Nat):Int))]),(.slice ab_ ((QaR nt.n).length) cb_,QaR nt.n)]:List (Value×List Int)) rfl (by decide) tc tq W8 r1_8 r2_8 r21_8 hps23 (by rw [show ((List.map Prod.snd ([(.slice (some ⟨g19,0,none⟩) 2 2,[1,(IntKind.u8.wrap ((x/2:Nat):Int))]),(.slice ab_ ((QaR nt.n).length) cb_,QaR nt.n)]:List (Value×List Int))).flatten)=([1,(IntKind.u8.wrap ((x/2:Nat):Int))])++(QaR nt.n) by simp only [List.map_cons,List.map_nil,List.flatten_cons,List.flatten_nil,List.append_nil,List.append_assoc,List.cons_append,List.nil_append]]; (rw [hXL]; have h9:=Qcn (wo:=wo) (ok0 x hx) (hmt x hx); omega))
  rw [show ((List.map Prod.snd ([(.slice (some ⟨g19,0,none⟩) 2 2,[1,(IntKind.u8.wrap ((x/2:Nat):Int))]),(.slice ab_ ((QaR nt.n).length) cb_,QaR nt.n)]:List (Value×List Int))).flatten)=([1,(IntKind.u8.wrap ((x/2:Nat):Int))])++(QaR nt.n) by simp only [List.map_cons,List.map_nil,List.flatten_cons,List.flatten_nil,List.append_nil,List.append_assoc,List.cons_append,List.nil_append]] at hsh23
  refine Qak (.agg (ints .u8 (dig (([1,(IntKind.u8.wrap ((x/2:Nat):Int))])++(QaR nt.n))))) 49 #[.slice (some ⟨g21,0,none⟩) 2 2] 36 rfl kj kj hsh23 fun W9 e9=>?_
  have x9:=Ext.tr x8 e9
  have r4_2:=(Qae r4_1 e2)
  have r4_3:=(Qae r4_2 e3)
  have r4_4:=(Puts.row p4 r4_3 (Qaw r4_2 l9))
  have r4_5:=(Qae r4_4 e5)
  have r4_6:=(Qae r4_5 e6)
  have r4_7:=(Qae r4_6 e7)
  have r4_8:=(Qae r4_7 e8)
  have r4_9:=(Qae r4_8 e9)
  refine Qav g4 _ (ints .u8 (dig (([1,(IntKind.u8.wrap ((x/2:Nat):Int))])++(QaR nt.n)))) 28 r4_9 rfl kj (Qat 28 _ _ g4 28 _ _ r4_9 rfl kj kj (isz (n:=32) kj ((Qac _ _).trans (QaG _))) (eqsz (n:=32) ((Qac _ _).trans (qZ (n:=32))) ((Qac _ _).trans (QaG _))) (Qau _ _)) fun W10 p10 r4_10=>?_
  have x10:=Puts.ext p10 x9 b4
  refine sgN hK18 <| wp_ret ?_
  repeat (first | with_reducible refine goR1 ?_ | with_reducible refine goR2 ?_)
  exact (show bodyPost _ _ _ .ret _ _ from ret1 (.agg (ints .u8 (dig (([1,(IntKind.u8.wrap ((x/2:Nat):Int))])++(QaR nt.n))))) rfl (Qbv g4 28 _ r4_10 kj kj (isz (n:=32) kj ((Qac _ _).trans (QaG _)))) ⟨congrArg (fun z=>Ending.returned (.agg (ints .u8 (dig z)))) (hXL.trans (Qdd k hk0).symm),x10⟩)
set_option maxRecDepth 100000 in
theorem Qmo (ts : List NdV) (a_t:Option Addr) (c_t B1:Nat) (htl:ts.length≤100000) (hmt:∀ i,i<ts.length→(ndi ts i).n.ms.length≤50) (L:Nat) (f:Form ts L) (ok0:∀ x,x<ts.length→NdOk (ndi ts x).n) (wo:List Int) (a_o:Option Addr) (c_o Bo:Nat) (w:World) (ht:TrAt B1 w a_t ts) (hT:TabAt w) (hSh:ShT w) (hol:wo.length≤1000000) (ho:RdK .i64 Bo wo (.slice a_o wo.length c_o) w) (k x:Nat) (hx:x<ts.length) (l r:Nat) (hl0:kidL ((x:Nat):Int)=((l:Nat):Int)) (hr0:kidR ((x:Nat):Int)=((r:Nat):Int)) (hkid:∀ W,TabAt W→Calls Tryd.prog 36 #[.int .i64 ((x:Nat):Int)] W (Ret W (.tuple #[.int .i64 ((l:Nat):Int),.int .i64 ((r:Nat):Int)]))) (hl:∀ w,TrAt B1 w a_t ts→TabAt w→ShT w→RdK .i64 w.heap.size wo (.slice a_o wo.length c_o) w→Calls Tryd.prog 27 #[.slice a_t ts.length c_t,.int .i64 ((l:Nat):Int),.slice a_o wo.length c_o] w (Ret w (.agg (ints .u8 (dig (txtN ts wo k l)))))) (hr:∀ w,TrAt B1 w a_t ts→TabAt w→ShT w→RdK .i64 w.heap.size wo (.slice a_o wo.length c_o) w→Calls Tryd.prog 27 #[.slice a_t ts.length c_t,.int .i64 ((r:Nat):Int),.slice a_o wo.length c_o] w (Ret w (.agg (ints .u8 (dig (txtN ts wo k r)))))):Calls Tryd.prog 27 #[.slice a_t ts.length c_t,.int .i64 ((x:Nat):Int),.slice a_o wo.length c_o] w (Ret w (.agg (ints .u8 (dig (txtN ts wo (k+1) x))))):=by
  obtain ⟨tc,tq,hc,hq⟩:=id hSh
  refine enter 61 [(0,.slice a_t ts.length c_t),(1,.int .i64 ((x:Nat):Int)),(2,.slice a_o wo.length c_o)] Tryd.func27 rfl rfl kj rfl <| sgC fun K3 hK3=>Qal (ints .u8 (List.replicate 32 0)) 28 6 rfl kj kj fun g4 W1 l4 e1 r4_1=>?_
  have x1:=Ext.tr (Rely.Ext.refl w) e1
  refine sgN hK3 <| sgC fun K5 hK5=>sg 1 kj <| Qak (.tuple #[.int .i64 ((l:Nat):Int),.int .i64 ((r:Nat):Int)]) 36 #[.int .i64 ((x:Nat):Int)] 15 rfl kj kj (hkid _ (TabAt.ext hT x1)) fun W2 e2=>?_
  have x2:=Ext.tr x1 e2
  refine sg 5 kj <| sgN hK5 <| wp_seq_k fun K6 hK6=>sgC fun K7 hK7=>sg 1 kj <| Qaa (.bool false) 19 rfl kj (Qag (u:=.bool (decide (((l:Nat):Int)<0))) kj (congrArg Value.bool (decide_eq_false (by omega)))) <| sgN hK7 <| cond_false kj <| wp_skip <| hK6 _ _ ?_
  refine sgC fun K8 hK8=>sg 2 kj ?_
  obtain ⟨gtT,otT,hat,hnts⟩:=TrAt.ext ht x2
  have hnt:=hnts x (by omega)
  obtain ⟨nt,ent⟩:∃ z,z=ndi ts x:=⟨_,rfl⟩
  rw [←ent] at hnt
  have okt:=hnt.ok
  have rdt:=hnt.rd
  refine Qaa (.pointer (some ⟨gtT,otT+x*99,none⟩)) 39 rfl kj (Qan 23 _ _ .i64 x gtT otT ts.length c_t 50 99 a_t (hat (by omega)) rfl kj kj kj kj (by omega)) <| Qaa (.agg (cat [#[.bool nt.n.us],#[.int .i64 nt.n.nm],ints .u8 (nt.n.key),ints .u8 (nt.n.sg),ints .u8 (nt.n.pa),#[.slice nt.a nt.n.ms.length nt.c]])) 40 rfl kj (QaI 50 _ gtT (otT+x*99) nt hnt rfl kj kj kj) <| Qal (cat [#[.bool false],#[.int .i64 0],ints .u8 (List.replicate 32 0),ints .u8 (List.replicate 32 0),ints .u8 (List.replicate 32 0),#[.slice none 0 0]]) 50 10 rfl kj kj fun g9 W3 l9 e3 r9_3=>?_
  have b9:=qT x2.size l9
  refine Qav g9 _ (cat [#[.bool nt.n.us],#[.int .i64 nt.n.nm],ints .u8 (nt.n.key),ints .u8 (nt.n.sg),ints .u8 (nt.n.pa),#[.slice nt.a nt.n.ms.length nt.c]]) 50 r9_3 rfl kj (Qat 50 _ _ g9 50 _ _ r9_3 rfl kj kj (isz (n:=99) kj (by rw [Qab,Qab,Qab,Qab,Qab,Qab]; simp only [qS,cat,((Qac _ _).trans okt.gl),((Qac _ _).trans okt.kl),((Qac _ _).trans okt.pl)]; rfl)) (eqsz (n:=99) (by rw [Qab,Qab,Qab,Qab,Qab,Qab]; simp only [qS,cat,((Qac _ _).trans (qZ (n:=32)))]; rfl) (by rw [Qab,Qab,Qab,Qab,Qab,Qab]; simp only [qS,cat,((Qac _ _).trans okt.gl),((Qac _ _).trans okt.kl),((Qac _ _).trans okt.pl)]; rfl)) (Qbo _ (by intro a ha; simp only [List.mem_cons,List.not_mem_nil,or_false] at ha; rcases ha with rfl | rfl | rfl | rfl | rfl | rfl; exact (Qa7 _ rfl); exact (Qa7 _ rfl); exact (Qau _ _); exact (Qau _ _); exact (Qau _ _); exact (Qa7 _ rfl)))) fun W4 p4 r9_4=>?_
  have x4:=Puts.ext p4 (Ext.tr x2 e3) b9
  refine sgN hK8 <| sgC fun K10 hK10=>sg 1 kj <| Qaa (.slice nt.a nt.n.ms.length nt.c) 42 rfl kj (Qaf 24 _ g9 98 50 _ (.slice nt.a nt.n.ms.length nt.c) _ r9_4 rfl kj (Qah [#[.bool nt.n.us],#[.int .i64 nt.n.nm],ints .u8 (nt.n.key),ints .u8 (nt.n.sg),ints .u8 (nt.n.pa)] [#[.slice nt.a nt.n.ms.length nt.c]] [] 98 (by rw [Qab,Qab,Qab,Qab,Qab]; simp only [qS,cat,((Qac _ _).trans okt.gl),((Qac _ _).trans okt.kl),((Qac _ _).trans okt.pl)]; rfl) 0 _ rfl) kj) ?_
  refine sg 1 kj <| Qa0 (fun v W'=>(OwnN .i64 3 W4.heap.size (exc nt.n.ms wo)) v W'∧Ext W4 W') 51 #[.slice nt.a nt.n.ms.length nt.c,.slice a_o wo.length c_o] 44 rfl kj kj ((excP nt.n.ms nt.a nt.c _ wo a_o c_o _ _ (qT (ent▸hmt x hx) (by decide)) (RdK.here (RdK.ext rdt (Puts.ext p4 (Rely.Ext.trans (Rely.Ext.refl W2) e3) l9))) hol (RdK.here (RdK.ext ho x4))).mono (by rintro e w' ⟨v,rfl,e1,hv⟩; exact ⟨v,rfl,hv,e1⟩)) fun vv11 W5 hh11=>?_
  obtain ⟨hv11,e5⟩:=hh11
  obtain ⟨a5,c5,rfl,-⟩:=id (OwnN.rd hv11)
  obtain ⟨n5,hn5⟩:∃ z:NdV,z=⟨Qdm ts wo x,a5,c5⟩:=⟨_,rfl⟩
  have ok5:NdOk n5.n:=by rw [hn5]; exact Qfl (ent▸okt)
  have hg5:gdN n5.n=true:=by rw [hn5]; exact QjI f hx wo
  have hm5:n5.n.ms.length≤50:=by rw [hn5]; exact qT (Qd9 _ _) (hmt x hx)
  have hu5:OwnN .i64 3 W4.heap.size n5.n.ms (.slice n5.a n5.n.ms.length n5.c) W5:=by
    rw [hn5]; show OwnN _ _ _ (exc (ndi ts x).n.ms wo) (.slice a5 (exc (ndi ts x).n.ms wo).length c5) _; rw [←ent]; exact hv11
  refine sg 1 kj ?_
  have r9_5:=(Qae r9_4 e5)
  refine Qav g9 _ (cat [#[.bool nt.n.us],#[.int .i64 nt.n.nm],ints .u8 (nt.n.key),ints .u8 (nt.n.sg),ints .u8 (nt.n.pa),#[.slice a5 (exc nt.n.ms wo).length c5]]) 50 r9_5 rfl kj (run_storeQ 24 _ _ g9 98 50 [#[.bool nt.n.us],#[.int .i64 nt.n.nm],ints .u8 (nt.n.key),ints .u8 (nt.n.sg),ints .u8 (nt.n.pa)] [] _ (.slice a5 (exc nt.n.ms wo).length c5) r9_5 rfl kj kj kj (by rw [Qab,Qab,Qab,Qab,Qab]; simp only [qS,cat,((Qac _ _).trans okt.gl),((Qac _ _).trans okt.kl),((Qac _ _).trans okt.pl)]; rfl) rfl rfl) fun W6 p6 r9_6=>?_
  have x6:=Puts.ext p6 (Ext.tr x4 e5) b9
  have r10x:W6.heap[g9]? = some (.cells (cat [#[.bool n5.n.us],#[.int .i64 n5.n.nm],ints .u8 (n5.n.key),ints .u8 (n5.n.sg),ints .u8 (n5.n.pa),#[.slice n5.a n5.n.ms.length n5.c]]) 50):=by have h9:=r9_6; rw [hn5]; show _=some (Obj.cells (cat [#[.bool (ndi ts x).n.us],#[.int .i64 (ndi ts x).n.nm],ints .u8 (ndi ts x).n.key,ints .u8 (ndi ts x).n.sg,ints .u8 (ndi ts x).n.pa,#[.slice a5 (exc (ndi ts x).n.ms wo).length c5]]) _); rw [←ent]; exact h9
  refine sgN hK10 <| sgC fun K12 hK12=>sg 3 kj <| Qak (.agg (ints .u8 (dig (txtN ts wo k l)))) 27 #[.slice a_t ts.length c_t,.int .i64 ((l:Nat):Int),.slice a_o wo.length c_o] 49 rfl kj kj (hl _ (TrAt.ext ht x6) (TabAt.ext hT x6) (ShT.ext hSh x6) (RdK.here (RdK.ext ho x6))) fun W7 e7=>?_
  have x7:=Ext.tr x6 e7
  refine sg 3 kj <| Qak (.agg (ints .u8 (dig (txtN ts wo k r)))) 27 #[.slice a_t ts.length c_t,.int .i64 ((r:Nat):Int),.slice a_o wo.length c_o] 53 rfl kj kj (hr _ (TrAt.ext ht x7) (TabAt.ext hT x7) (ShT.ext hSh x7) (RdK.here (RdK.ext ho x7))) fun W8 e8=>?_
  have x8:=Ext.tr x7 e8
  refine Qal (ints .u8 (List.replicate 32 0)) 28 11 rfl kj kj fun g13 W9 l13 e9 r13_9=>?_
  have x9:=Ext.tr x8 e9
  refine Qal (ints .u8 (List.replicate 32 0)) 28 12 rfl kj kj fun g14 W10 l14 e10 r14_10=>?_
  have r13_10:=(Qae r13_9 e10)
  refine Qav g13 _ (ints .u8 (dig (txtN ts wo k l))) 28 r13_10 rfl kj (Qat 28 _ _ g13 28 _ _ r13_10 rfl kj kj (isz (n:=32) kj ((Qac _ _).trans (QaG _))) (eqsz (n:=32) ((Qac _ _).trans (qZ (n:=32))) ((Qac _ _).trans (QaG _))) (Qau _ _)) fun W11 p11 r13_11=>?_
  have r14_11:=(Puts.row p11 r14_10 (QfI r13_9 l14))
  refine Qav g14 _ (ints .u8 (dig (txtN ts wo k r))) 28 r14_11 rfl kj (Qat 28 _ _ g14 28 _ _ r14_11 rfl kj kj (isz (n:=32) kj ((Qac _ _).trans (QaG _))) (eqsz (n:=32) ((Qac _ _).trans (qZ (n:=32))) ((Qac _ _).trans (QaG _))) (Qau _ _)) fun W12 p12 r14_12=>?_
  have x12:=Puts.ext p12 (Puts.ext p11 (Ext.tr x9 e10) (qT x8.size l13)) (qT x9.size l14)
  refine sgN hK12 <| wp_seq_k fun K15 hK15=>QaY 5 [⟨none,[]⟩,⟨none,[(10,none)]⟩,⟨none,[(55,some 1)]⟩,⟨none,[(11,none)]⟩,⟨none,[(12,none)]⟩] kj kj fun F hF=>QgN (Qam _) (ints .u8 ([2])) 5 1 (NewS.stable _ _ _ _) kj kj (fun W=>by kernel_rfl) ?_
  have r9_8:=(Qae (Qae r10x e7) e8)
  have r9_9:=(Qae r9_8 e9)
  refine QaM (Qam _) (.agg (cat [#[.bool n5.n.us],#[.int .i64 n5.n.nm],ints .u8 (n5.n.key),ints .u8 (n5.n.sg),ints .u8 (n5.n.pa),#[.slice n5.a n5.n.ms.length n5.c]])) kj kj (fun W hR=>(QaA 50 _ g9 50 _ _ (Qae (Qae (Puts.row p12 (Puts.row p11 (Qae r9_9 e10) (Qaw r9_8 l13)) (Qaw r9_9 l14)) (Qaz _)) hR) rfl kj kj (isz (n:=99) kj (by rw [Qab,Qab,Qab,Qab,Qab,Qab]; simp only [qS,cat,((Qac _ _).trans ok5.gl),((Qac _ _).trans ok5.kl),((Qac _ _).trans ok5.pl)]; rfl)))) ?_
  have f19_8:=(((hu5.puts p6 (nb_old hu5 (Qa5 r9_4))).ext e7).ext e8)
  have f20_9:=(f19_8.ext e9)
  refine Qlo (Qam _) (OwnN .u8 5 0 (QaR n5.n)) (OwnN.stable _ _ _ _) 50 #[.agg (cat [#[.bool n5.n.us],#[.int .i64 n5.n.nm],ints .u8 (n5.n.key),ints .u8 (n5.n.sg),ints .u8 (n5.n.pa),#[.slice n5.a n5.n.ms.length n5.c]])] kj kj (fun W=>by kernel_rfl) (fun W hR=>((bofP n5 ok5 _ W (qT hm5 (by decide)) (RdK.ext (OwnN.rd (((f20_9.ext e10).puts p11 (Qer f19_8 l13)).puts p12 (Qer f20_9 l14))) (Rely.Ext.trans (Qaz _) hR)) hg5).mono fun e2 W2 ⟨v2,q1,q2,q3⟩=>⟨v2,q1,q2,OwnN.base (Nat.zero_le _) q3⟩)) <| Qa2 (Qam _) (.slice (some ⟨g13,0,none⟩) 32 32) kj kj (fun W=>by kernel_rfl) <| Qa2 (Qam _) (.slice (some ⟨g14,0,none⟩) 32 32) kj kj (fun W=>by kernel_rfl) <| Qda (hF _ fun W13 e13=>?_)
  simp only [List.nil_append,List.cons_append,List.take_succ_cons,List.take_zero,List.drop_succ_cons,List.drop_zero,finE,up]
  intro vv16 hv16 vv24 hv24
  clear hF
  have x13:=Ext.tr x12 e13
  obtain ⟨g16,rfl,l16,r16_13⟩:=hv16
  have b16:=qT x12.size l16
  obtain ⟨ab_,cb_,rfl,-⟩:=id (OwnN.rd hv24)
  refine Qa9 (#[.slice (some ⟨g16,0,none⟩) 1 1,.slice ab_ ((QaR n5.n).length) cb_,.slice (some ⟨g13,0,none⟩) 32 32,.slice (some ⟨g14,0,none⟩) 32 32]) 59 4 59 rfl kj kj fun g25 W14 l25 e14 r25_14=>?_
  have b25:=qT x13.size l25
  have hb0:=Qdn ok5
  have hXL:((([2]:List Int)++(QaR n5.n))++(dig (txtN ts wo k l)))++(dig (txtN ts wo k r))=txtN ts wo (k+1) x:=by rw [Qgy k hl0 hr0,hn5]
  have r16_14:=(Qae r16_13 e14)
  have r13_14:=(Qae (Qae (Puts.row p12 r13_11 (Qaw r13_9 l14)) e13) e14)
  have r14_14:=(Qae (Qae r14_12 e13) e14)
  have r1_2:=(Qae (Qae hc e1) e2)
  have r1_8:=(Qae (Qae (Puts.row p6 (Qae (Puts.row p4 (Qae r1_2 e3) (Qaw r1_2 l9)) e5) (Qaw r1_2 l9)) e7) e8)
  have r1_9:=(Qae r1_8 e9)
  have r2_2:=(Qae (Qae hq e1) e2)
  have r2_8:=(Qae (Qae (Puts.row p6 (Qae (Puts.row p4 (Qae r2_2 e3) (Qaw r2_2 l9)) e5) (Qaw r2_2 l9)) e7) e8)
  have r2_9:=(Qae r2_8 e9)
  have hps27:∀ p∈([(.slice (some ⟨g16,0,none⟩) 1 1,[2]),(.slice ab_ ((QaR n5.n).length) cb_,QaR n5.n),(.slice (some ⟨g13,0,none⟩) 32 32,dig (txtN ts wo k l)),(.slice (some ⟨g14,0,none⟩) 32 32,dig (txtN ts wo k r))]:List (Value×List Int)),RdK .u8 W14.heap.size p.2 p.1 W14∧Qax p.2:=by
    intro p hp
    simp only [List.mem_cons,List.not_mem_nil,or_false] at hp
    rcases hp with rfl | rfl | rfl | rfl
    · exact ⟨RdK.here (QaJ (xs:=[2]) (n:=1) rfl r16_14 (Qa5 r16_14) (show 1≤maxLen from by decide)),(QcF [2] (by decide))⟩
    · exact ⟨RdK.here (OwnN.rd (hv24.ext e14)),(Qcd ok5)⟩
    · exact ⟨RdK.here (QaJ (xs:=dig (txtN ts wo k l)) (n:=32) (QaG _) r13_14 (Qa5 r13_14) (show 32≤maxLen from by decide)),(Qcf _)⟩
    · exact ⟨RdK.here (QaJ (xs:=dig (txtN ts wo k r)) (n:=32) (QaG _) r14_14 (Qa5 r14_14) (show 32≤maxLen from by decide)),(Qcf _)⟩
  have hsh27:=Qgz g25 4 _ ([(.slice (some ⟨g16,0,none⟩) 1 1,[2]),(.slice ab_ ((QaR n5.n).length) cb_,QaR n5.n),(.slice (some ⟨g13,0,none⟩) 32 32,dig (txtN ts wo k l)),(.slice (some ⟨g14,0,none⟩) 32 32,dig (txtN ts wo k r))]:List (Value×List Int)) rfl (by decide) tc tq W14 (Qae (Qae (Puts.row p12 (Puts.row p11 (Qae r1_9 e10) (Qaw r1_8 l13)) (Qaw r1_9 l14)) e13) e14) (Qae (Qae (Puts.row p12 (Puts.row p11 (Qae r2_9 e10) (Qaw r2_8 l13)) (Qaw r2_9 l14)) e13) e14) r25_14 hps27 (by rw [show ((List.map Prod.snd ([(.slice (some ⟨g16,0,none⟩) 1 1,[2]),(.slice ab_ ((QaR n5.n).length) cb_,QaR n5.n),(.slice (some ⟨g13,0,none⟩) 32 32,dig (txtN ts wo k l)),(.slice (some ⟨g14,0,none⟩) 32 32,dig (txtN ts wo k r))]:List (Value×List Int))).flatten)=([2])++(QaR n5.n)++(dig (txtN ts wo k l))++(dig (txtN ts wo k r)) by simp only [List.map_cons,List.map_nil,List.flatten_cons,List.flatten_nil,List.append_nil,List.append_assoc,List.cons_append,List.nil_append]]; (simp only [List.length_append,QaG,hb0,List.length_cons,List.length_nil]; omega))
  rw [show ((List.map Prod.snd ([(.slice (some ⟨g16,0,none⟩) 1 1,[2]),(.slice ab_ ((QaR n5.n).length) cb_,QaR n5.n),(.slice (some ⟨g13,0,none⟩) 32 32,dig (txtN ts wo k l)),(.slice (some ⟨g14,0,none⟩) 32 32,dig (txtN ts wo k r))]:List (Value×List Int))).flatten)=([2])++(QaR n5.n)++(dig (txtN ts wo k l))++(dig (txtN ts wo k r)) by simp only [List.map_cons,List.map_nil,List.flatten_cons,List.flatten_nil,List.append_nil,List.append_assoc,List.cons_append,List.nil_append]] at hsh27
  refine Qak (.agg (ints .u8 (dig (([2])++(QaR n5.n)++(dig (txtN ts wo k l))++(dig (txtN ts wo k r)))))) 49 #[.slice (some ⟨g25,0,none⟩) 4 4] 60 rfl kj kj hsh27 fun W15 e15=>?_
  have r4_2:=(Qae r4_1 e2)
  have r4_8:=(Qae (Qae (Puts.row p6 (Qae (Puts.row p4 (Qae r4_2 e3) (Qaw r4_2 l9)) e5) (Qaw r4_2 l9)) e7) e8)
  have r4_9:=(Qae r4_8 e9)
  have r4_15:=(Qae (Qae (Qae (Puts.row p12 (Puts.row p11 (Qae r4_9 e10) (Qaw r4_8 l13)) (Qaw r4_9 l14)) e13) e14) e15)
  refine Qav g4 _ (ints .u8 (dig (([2])++(QaR n5.n)++(dig (txtN ts wo k l))++(dig (txtN ts wo k r))))) 28 r4_15 rfl kj (Qat 28 _ _ g4 28 _ _ r4_15 rfl kj kj (isz (n:=32) kj ((Qac _ _).trans (QaG _))) (eqsz (n:=32) ((Qac _ _).trans (qZ (n:=32))) ((Qac _ _).trans (QaG _))) (Qau _ _)) fun W16 p16 r4_16=>sgN hK15 <| wp_ret ?_
  repeat (first | with_reducible refine goR1 ?_ | with_reducible refine goR2 ?_)
  exact (show bodyPost _ _ _ .ret _ _ from ret1 (.agg (ints .u8 (dig (([2])++(QaR n5.n)++(dig (txtN ts wo k l))++(dig (txtN ts wo k r)))))) rfl (Qbv g4 28 _ r4_16 kj kj (isz (n:=32) kj ((Qac _ _).trans (QaG _)))) ⟨congrArg (fun z=>Ending.returned (.agg (ints .u8 (dig z)))) hXL,(Puts.ext p16 (Ext.tr (Ext.tr x13 e14) e15) (qT (Rely.Ext.refl w).size l4))⟩)
theorem digP (ts : List NdV) (a_t:Option Addr) (c_t B1:Nat) (htl:ts.length≤100000) (hmt:∀ i,i<ts.length→(ndi ts i).n.ms.length≤50) (L:Nat) (f:Form ts L) (ok0:∀ x,x<ts.length→NdOk (ndi ts x).n) (wo:List Int) (a_o:Option Addr) (c_o Bo:Nat) (hol:wo.length≤1000000):∀ (k x:Nat),k≤5→x<ts.length→lv ((x:Nat):Int)≤((k:Nat):Int)→∀ w,TrAt B1 w a_t ts→TabAt w→ShT w→RdK .i64 w.heap.size wo (.slice a_o wo.length c_o) w→Calls Tryd.prog 27 #[.slice a_t ts.length c_t,.int .i64 ((x:Nat):Int),.slice a_o wo.length c_o] w (Ret w (.agg (ints .u8 (dig (txtN ts wo k x))))):=by
  have hlen:=f.len
  have hTr:=f.tr
  intro k
  induction k with
  | zero =>
    intro x hk hx hl w ht hT hSh ho
    have hi:i64 ((x:Nat):Int):=⟨by omega,by omega⟩
    have hl:=(show lv ((x:Nat):Int)≤0 from hl)
    have h0:kidL ((x:Nat):Int)=-1:=by unfold kidL; rw [if_pos hl]
    have h1:kidR ((x:Nat):Int)=-1:=by unfold kidR; rw [if_pos hl]
    exact QjK ts a_t c_t B1 htl hmt L f ok0 wo a_o c_o _ w ht hT hSh hol ho 0 x hx (by omega) (fun W h=>by have:=(quiet (children _ hi W h)); rw [h0,h1] at this; exact this)
  | succ k ih =>
    intro x hk hx hl w ht hT hSh ho
    have hi:i64 ((x:Nat):Int):=⟨by omega,by omega⟩
    rcases QbP (QaK hTr (x:=x) (by omega)) with ⟨-,⟨h0,h1⟩ | ⟨h2,h3,h4,h5⟩⟩
    · exact QjK ts a_t c_t B1 htl hmt L f ok0 wo a_o c_o _ w ht hT hSh hol ho (k+1) x hx (by omega) (fun W h=>by have:=(quiet (children _ hi W h)); rw [h0,h1] at this; exact this)
    · obtain ⟨l,hl0⟩:=Int.eq_ofNat_of_zero_le (QbL h2)
      obtain ⟨r,hr0⟩:=Int.eq_ofNat_of_zero_le (QbL h3)
      have hll:=QbQ h2
      have hrl:=QbQ h3
      exact Qmo ts a_t c_t B1 htl hmt L f ok0 wo a_o c_o _ w ht hT hSh hol ho k x hx l r hl0 hr0 (fun W h=>by have:=(quiet (children _ hi W h)); rw [hl0,hr0] at this; exact this) (fun w ht hT hSh ho=>ih l (by omega) (by omega) (by rw [←hl0]; omega) w ht hT hSh ho) (fun w ht hT hSh ho=>ih r (by omega) (by omega) (by rw [←hr0]; omega) w ht hT hSh ho)
end Go.Proofs.YthfkppjajmjpnaaDoor.Te
end
section
namespace Go.Proofs.YthfkppjajmjpnaaDoor.Sha
open Go Go.RowKit
open Rely Auto Own
theorem Qme (w : World):Calls Tryd.prog 71 #[] w (Qbs w (fun v W=>∃ g,v=.slice (some ⟨g,0,none⟩) 80 80∧w.heap.size≤g∧W.heap[g]? = some (.cells (ints .u64 Qbn) 78))):=by
  refine enter 2 [] Tryd.func71 rfl rfl kj rfl <| sgB kj <| sgC fun K2 hK2=>Qa9 (ints .u64 Qbn) 78 80 1 rfl kj kj fun g3 W1 l3 e1 r3_1=>sg 1 kj <| sgN hK2 <| wp_ret ?_
  repeat (first | with_reducible refine goR1 ?_ | with_reducible refine goR2 ?_)
  exact (show bodyPost _ _ _ .ret _ _ from ret1 (.slice (some ⟨g3,0,none⟩) 80 80) rfl (Qar kj) ⟨_,rfl,(Ext.tr (Rely.Ext.refl w) e1),_,rfl,(qT (Rely.Ext.refl w).size l3),r3_1⟩)
theorem Qmx (w : World):Calls Tryd.prog 53 #[] w (Qbs w (fun v W=>∃ g,v=.slice (some ⟨g,0,none⟩) 8 8∧w.heap.size≤g∧W.heap[g]? = some (.cells (ints .u64 QaQ) 78))):=by
  refine enter 2 [] Tryd.func53 rfl rfl kj rfl <| sgB kj <| sgC fun K2 hK2=>Qa9 (ints .u64 QaQ) 78 8 1 rfl kj kj fun g3 W1 l3 e1 r3_1=>sg 1 kj <| sgN hK2 <| wp_ret ?_
  repeat (first | with_reducible refine goR1 ?_ | with_reducible refine goR2 ?_)
  exact (show bodyPost _ _ _ .ret _ _ from ret1 (.slice (some ⟨g3,0,none⟩) 8 8) rfl (Qar kj) ⟨_,rfl,(Ext.tr (Rely.Ext.refl w) e1),_,rfl,(qT (Rely.Ext.refl w).size l3),r3_1⟩)
theorem Qmp (i : Nat) (h:i<64):IntKind.u64.wrap (Int.tdiv (nth Qbn i) 4294967296)=nth Qbn i/4294967296:=by
  have:∀ i:Fin 64,IntKind.u64.wrap (Int.tdiv (nth Qbn i.1) 4294967296)=nth Qbn i.1/4294967296:=by decide +kernel
  exact this ⟨i,h⟩
theorem Qkk {i : Nat} (h:i<64):(KK.take (i+1)).map wv=(KK.take i).map wv++[wv (wget KK i)]:=by
  have:∀ i:Fin 64,(KK.take (i.1+1)).map wv=(KK.take i.1).map wv++[wv (wget KK i.1)]:=by decide +kernel
  exact this ⟨i,h⟩
theorem Qks (w : World):Calls Tryd.prog 54 #[] w (Qbs w (OwnN .u32 76 w.heap.size (KK.map wv))):=by
 refine enter 19 [] Tryd.func54 rfl rfl kj rfl <| sgB kj <| sgB kj <| sgC fun K3 hK3=>Qa0 (fun v W'=>(fun v W=>∃ g,v=.slice (some ⟨g,0,none⟩) 80 80∧w.heap.size≤g∧W.heap[g]? = some (.cells (ints .u64 Qbn) 78)) v W'∧Ext w W') 71 #[] 4 rfl kj kj ((Qme _).mono (by rintro e w' ⟨v,rfl,e1,hv⟩; exact ⟨v,rfl,hv,e1⟩)) fun vv4 W1 hh4=>?_
 obtain ⟨hv4,e1⟩:=hh4
 have x1:=Ext.tr (Rely.Ext.refl w) e1
 obtain ⟨gd5,rfl,ld5,rd5_1⟩:=hv4
 have b5:=qT (Rely.Ext.refl w).size ld5
 refine sg 1 kj <| sgN hK3 <| wp_seq_k fun K6 hK6=>sgB kj <| wp_block <| Qay (fun (s1:Nat×Value)=>[(1,s1.2),(2,.slice (some ⟨gd5,0,none⟩) 80 80),(3,.int .i64 ((s1.1:Nat):Int))]) (fun (s1:Nat×Value) W=>(s1.1≤64)∧(OwnN .u32 76 W1.heap.size ((KK.take s1.1).map wv) s1.2 W)∧(Ext W1 W)∧(Ext w W)) (fun (s1:Nat×Value)=>64-s1.1) (0,(.slice none 0 0)) ⟨kj,kj,kj,trivial⟩ ⟨(Nat.zero_le _),(QbM _ _ _ _),(Rely.Ext.refl W1),x1⟩ fun s1 X1 V1 hI1=>?_
 obtain ⟨i,u⟩:=s1
 obtain ⟨hi,hu,kk1,xx1⟩:=hI1
 replace hi:i≤64:=hi
 replace hu:OwnN .u32 76 W1.heap.size ((KK.take i).map wv) u V1:=hu
 replace kk1:Ext W1 V1:=kk1
 replace xx1:Ext w V1:=xx1
 have e2:=kk1
 refine wp_seq_k fun K8 hK8=>sgB kj <| Qaq (t:=decide (((i:Nat):Int)<64)) kj (fun c10=>?_) (fun c10=>?_)
 ·skip
  have hlt6:i<64:=by have:=of_decide_eq_true c10; omega
  refine wp_skip <| hK8 _ _ <| wp_seq_k fun K11 hK11=>wp_block <| Qad <| sg 3 kj <| Qaa (.pointer (some ⟨gd5,i,none⟩)) 12 rfl kj (QbI 74 _ _ .i64 (i) gd5 80 80 78 rfl kj kj kj kj (by omega)) <| Qaa (.int .u64 (nth (Qbn) i)) 13 rfl kj (Qaf 78 _ gd5 i 78 _ (.int .u64 (nth (Qbn) i)) _ (Qae rd5_1 e2) rfl kj (QaZ _ _ _ (Nat.lt_of_lt_of_eq (by omega) (show Qbn.length=80 from rfl).symm)) kj) <| Qaa (.int .u64 (nth Qbn i/4294967296)) 14 rfl kj (Qag (u:=.int .u64 (IntKind.u64.wrap (Int.tdiv ((nth (Qbn) i)) (4294967296)))) kj (congrArg (Value.int .u64) (Qmp i hlt6))) <| Qaa (.int .u32 (wv (wget KK i))) 15 rfl kj (Qag (u:=.int .u32 (IntKind.u32.wrap (nth Qbn i/4294967296))) kj (congrArg (Value.int .u32) (QjM i hlt6))) ?_
  refine Qa9 (ints .u32 ([(wv (wget KK i))])) 76 1 16 rfl kj kj fun g12 W3 l12 e3 r12_3=>?_
  have b12:=qT xx1.size l12
  refine QaC (k:=.u32) (T:=76) (xs:=(KK.take i).map wv) (ys:=[wv (wget KK i)]) (V:=W1) 4 (.tmp 9) (.tmp 16) 79 rfl kj kj (by decide) 17 rfl kj kj kj (hu.ext e3) (QaJ (xs:=[(wv (wget KK i))]) (n:=1) rfl r12_3 (Qa5 r12_3) (show 1≤maxLen from by decide)) (by rw [List.length_map,List.length_take]; show _+1≤_; omega) (Rely.Ext.trans e2 e3) fun u2 W4 f14 y4 l4=>?_
  refine sg 1 kj <| Qaj <| hK11 _ _ <| Qad <| sg 1 kj <| Qaa (.int .i64 ((i+1:Nat):Int)) 8 rfl kj (Qag (u:=.int .i64 (IntKind.i64.wrap (((i:Nat):Int)+1))) kj (congrArg (Value.int .i64) (i64n _ _ (by omega) (by omega)))) <| sg 1 kj <| Qaj ?_
  repeat (first | with_reducible refine goX1 ?_ | with_reducible refine goX2 ?_ | with_reducible refine goX3 ?_)
  exact Qap ((i+1),u2) ⟨kj,kj,kj,trivial⟩ ⟨(by omega),(by rw [Qkk hlt6]; exact f14),y4,(Ext.low (Ext.tr xx1 e3) l4 x1.size)⟩ (by show 64-(i+1)<64-i; omega)
 ·skip
  have heq6:i=64:=by have:=of_decide_eq_false c10; omega
  refine wp_exit <| hK6 _ _ <| sgB kj <| wp_ret ?_
  repeat (first | with_reducible refine goR1 ?_ | with_reducible refine goR2 ?_)
  exact (show bodyPost _ _ _ .ret _ _ from ret1 (u) rfl (Qar kj) ⟨u,rfl,xx1,OwnN.base x1.size (by rw [show KK.map wv=(KK.take i).map wv by rw [heq6,List.take_of_length_le (show KK.length≤64 by decide)]]; exact hu)⟩)
end Go.Proofs.YthfkppjajmjpnaaDoor.Sha
end
section
namespace Go.Proofs.YthfkppjajmjpnaaDoor.Sha
open Go Go.RowKit
open Rely Auto Own
section
variable {P : Program} {ρ : Operand → Value} {o : Oper} {w : World}
end
section
variable {ds : List Deferred} {P : Program} {ops : Array Oper} {Q : Exit → Act → World → Prop} {rest : List Oper} {o : Oper} {N : Nat} {L : Env} {W : World}
theorem QfY {k : IntKind} {T:TypeId} (b:Nat) (s x:Operand) (t:TypeId) (ho:o.op=.call { callee:=.builtin .append,args:=#[s,x],argTypes:=#[t,t] })
    (ht:P.underlying t=some (.slice T)) (hi:(P.info? T).map (fun i=>(i.zero,i.size,i.bytes))=some (some (.int k 0),1,b)) (hb8:b≤8) (d:Nat) (hd:o.dst=some d) (hg:Qby ops o N L=some true) {B:Nat} {v y:Value} {xs ys:List Int} {V:World}
    (hs:Rely.look (envN N L) s=v) (hx:Rely.look (envN N L) x=y)
    (h:OwnN k T V.heap.size xs v W) (hy:RdK k B ys y W) {g9:Nat} (hl:g9<W.heap.size) (hne:v.ownBlock≠some g9) (hn:xs.length+ys.length≤1000000000) (hV:Ext V W)
    (kk:∀ (u:Value) (W':World),OwnN k T V.heap.size (xs++ys) u W'→Ext V W'→Below V.heap.size W W'→(u.ownBlock≠some g9∧g9<W'.heap.size∧W'.heap[g9]? = W.heap[g9]?)→WL P ops Q rest (Qa3 ds N ((d,u)::L)) W'):WL P ops Q (o::rest) (Qa3 ds N L) W:=by
  obtain ⟨v',W',h1,h2,h3,h4⟩:=QdW (ρ:=Rely.look (envN N L)) (o:=o) (W:=W) s x t ho ht hi hb8 hs hx h hy hn hV.size
  refine QbW _ _ d hd hg h1 (kk v' W' h2 (Qgk hV h h3) ⟨h3.os,h3.tape,h3.output,h3.size,fun i hi=>h3.block i (qL hi hV.size) (fun q=>by have:=h.ge q.symm; omega)⟩ ⟨?_,qL hl h3.size,h3.block g9 hl (fun q=>hne q.symm)⟩)
  rcases h4 with h4 | h4
  · rw [h4]; exact hne
  · rw [h4]; intro e; have:=Option.some.inj e; omega
end
def leP (n j:Nat):List Int:=(List.range j).map fun i=>((8*n/256^i%256:Nat):Int)
theorem Qeu (n j:Nat):(leP n j).length=j:=by simp [leP]
theorem Qjb (n j:Nat):leP n (j+1)=leP n j++[((8*n/256^j%256:Nat):Int)]:=by simp [leP,List.range_succ]
theorem QmI (n j:Nat) (h:j<8):nth (leP n 8) (7-j)=nth (be8 (8*n)) j:=by
  match j,h with
  | 0,_=>rfl
  | 1,_=>rfl
  | 2,_=>rfl
  | 3,_=>rfl
  | 4,_=>rfl
  | 5,_=>rfl
  | 6,_=>rfl
  | 7,_=>rfl
theorem Ql2 (m j:Nat) (h:j<8):(be8 m).take (j+1)=(be8 m).take j++[nth (be8 m) j]:=by
  match j,h with
  | 0,_=>rfl
  | 1,_=>rfl
  | 2,_=>rfl
  | 3,_=>rfl
  | 4,_=>rfl
  | 5,_=>rfl
  | 6,_=>rfl
  | 7,_=>rfl
theorem QiL (t : List Int) (i:Nat):t++128::List.replicate (i+1) (0:Int)=(t++128::List.replicate i 0)++[0]:=by
  rw [List.append_assoc,List.cons_append,List.replicate_succ']
theorem QiP (t : List Int) (i:Nat) (h:i≤QaP t.length):((((t++128::List.replicate i (0:Int)).length%64:Nat):Int) != 56)=decide (i<QaP t.length):=by
  have hl:(t++128::List.replicate i (0:Int)).length=t.length+(i+1):=by simp
  rw [hl]
  unfold QaP at *
  by_cases h2:i<(64-(t.length+9)%64)%64
  · rw [decide_eq_true h2,bne_iff_ne]; omega
  · rw [decide_eq_false h2,bne_eq_false_iff_eq]; omega
theorem Qle (n j:Nat):decide ((((leP n j).length:Nat):Int)<8)=decide (j<8):=by
  rw [Qeu]
  exact decide_eq_decide.2 (by omega)
theorem Qlk (j : Nat) (h:j≤8):decide ((7:Int)-((j:Nat):Int)≥0)=decide (j<8):=decide_eq_decide.2 (by omega)
theorem QmM (j : Nat) (h:j≤8):IntKind.i64.wrap ((7:Int)-((j:Nat):Int)-1)=(7:Int)-((j+1:Nat):Int):=by
  rw [show (7:Int)-((j:Nat):Int)-1=(7:Int)-((j+1:Nat):Int) by omega]
  exact IntWalk.i64_in _ (by omega)
theorem le_0 (n : Nat):IntKind.u8.wrap ((n%32*8:Nat):Int)=((8*n/256^0%256:Nat):Int):=by
  rw [byteN,Nat.pow_zero,Nat.div_one]; omega
theorem le_j (m : Nat):IntKind.u8.wrap ((m%256:Nat):Int)=((m%256:Nat):Int):=by rw [byteN]; omega
theorem q_1 (n : Nat):8*n/256^1=n/32:=by rw [Nat.pow_one]; omega
theorem q_j (m j:Nat):m/256^j/256=m/256^(j+1):=by rw [Nat.div_div_eq_div_mul,Nat.pow_succ]
theorem QkH (t : List Int):(t++128::List.replicate (QaP t.length) (0:Int))++(be8 (8*t.length)).take 8=padT t:=by
  rw [List.append_assoc,List.cons_append]
  rfl
theorem padC (t : List Int) (v:Value) (B:Nat) (w:World) (hlen:t.length≤900000000) (hr:RdK .u8 B t v w):Calls Tryd.prog 55 #[v,.int .i64 64,.int .i64 8] w (Qbs w (OwnN .u8 5 w.heap.size (padT t))):=by
 obtain ⟨a_t,c_t,rfl,-⟩:=id hr
 have hF:QaP t.length<64:=by unfold QaP; omega
 refine enter 62 [(0,.slice a_t t.length c_t),(1,.int .i64 64),(2,.int .i64 8)] Tryd.func55 rfl rfl kj rfl <| sgB kj <| sgC fun K2 hK2=>Qa9 (ints .u8 ([])) 5 0 11 rfl kj kj fun g3 W1 l3 e1 r3_1=>?_
 have x1:=Ext.tr (Rely.Ext.refl w) e1
 have b3:=qT (Rely.Ext.refl w).size l3
 refine sg 1 kj <| QaC (k:=.u8) (T:=5) (xs:=[]) (ys:=t) (V:=w) 1 (.tmp 11) (.tmp 12) 59 rfl kj kj (by decide) 13 rfl kj kj kj (Qb4 (xs:=[]) rfl l3 r3_1 (by decide)) (RdK.ext hr x1) (by simp; omega) (Rely.Ext.trans (Rely.Ext.refl w) e1) fun z1 W2 f4 y2 l2=>?_
 have x2:=Ext.low x1 l2 (Rely.Ext.refl w).size
 refine Qa9 (ints .u8 ([128])) 5 1 14 rfl kj kj fun g6 W3 l6 e3 r6_3=>?_
 have b6:=qT x2.size l6
 refine QaC (k:=.u8) (T:=5) (xs:=[]++t) (ys:=[128]) (V:=w) 1 (.tmp 13) (.tmp 14) 59 rfl kj kj (by decide) 15 rfl kj kj kj (f4.ext e3) (QaJ (xs:=[128]) (n:=1) rfl r6_3 (Qa5 r6_3) (show 1≤maxLen from by decide)) (by simp; omega) (Rely.Ext.trans y2 e3) fun z2 W4 f8 y4 l4=>?_
 refine sg 1 kj <| sgN hK2 <| wp_seq_k fun K10 hK10=>wp_block <| Qay (fun (s1:Nat×Value)=>[(0,.slice a_t t.length c_t),(1,.int .i64 64),(2,.int .i64 8),(7,s1.2)]) (fun (s1:Nat×Value) W=>(s1.1≤QaP t.length)∧(OwnN .u8 5 w.heap.size (t++128::List.replicate s1.1 0) s1.2 W)∧(Ext w W)) (fun (s1:Nat×Value)=>QaP t.length-s1.1) (0,z2) ⟨kj,kj,kj,kj,trivial⟩ ⟨(Nat.zero_le _),(by have h:=f8; simpa using h),(Ext.low (Ext.tr x2 e3) l4 (Rely.Ext.refl w).size)⟩ fun s1 X1 V1 hI1=>?_
 obtain ⟨i,u⟩:=s1
 obtain ⟨hi,hu,xx1⟩:=hI1
 replace hi:i≤QaP t.length:=hi
 replace hu:OwnN .u8 5 w.heap.size (t++128::List.replicate i 0) u V1:=hu
 replace xx1:Ext w V1:=xx1
 obtain ⟨a7,c7,rfl,-⟩:=id (OwnN.rd hu)
 refine wp_seq_k fun K11 hK11=>sgC fun K12 hK12=>sg 3 kj <| Qaa (.int .i64 ((((t++128::List.replicate i 0).length)%64:Nat):Int)) 19 rfl kj (Qag (u:=.int .i64 (Int.tmod ((((t++128::List.replicate i 0).length:Nat):Int)) (64))) kj (congrArg (Value.int .i64) (Qbr _ 64))) <| sg 3 kj <| Qaa (.bool (decide (i<QaP t.length))) 23 rfl kj (Qag (u:=.bool ((((((t++128::List.replicate i 0).length)%64:Nat):Int) != 56))) kj (congrArg Value.bool (QiP t i hi))) <| sgN hK12 <| Qaq (t:=decide (i<QaP t.length)) kj (fun c13=>?_) (fun c13=>?_)
 ·skip
  have hlt23:i<QaP t.length:=by have:=of_decide_eq_true c13; omega
  refine wp_skip <| hK11 _ _ <| wp_block <| Qad <| sg 1 kj <| Qa9 (ints .u8 ([0])) 5 1 25 rfl kj kj fun g14 W6 l14 e6 r14_6=>?_
  have x6:=Ext.tr xx1 e6
  have b14:=qT xx1.size l14
  refine QaC (k:=.u8) (T:=5) (xs:=t++128::List.replicate i 0) (ys:=[0]) (V:=w) 1 (.tmp 24) (.tmp 25) 59 rfl kj kj (by decide) 26 rfl kj kj kj (hu.ext e6) (QaJ (xs:=[0]) (n:=1) rfl r14_6 (Qa5 r14_6) (show 1≤maxLen from by decide)) (by simp; omega) (Rely.Ext.trans xx1 e6) fun z3 W7 f16 y7 l7=>?_
  refine sg 1 kj <| Qaj ?_
  repeat (first | with_reducible refine goX1 ?_ | with_reducible refine goX2 ?_ | with_reducible refine goX3 ?_)
  exact Qap ((i+1),z3) ⟨kj,kj,kj,kj,trivial⟩ ⟨(by omega),(by rw [QiL]; exact f16),(Ext.low x6 l7 (Rely.Ext.refl w).size)⟩ (by show QaP t.length-(i+1)<QaP t.length-i; omega)
 ·skip
  have heq23:i=QaP t.length:=by have:=of_decide_eq_false c13; omega
  subst heq23
  refine wp_exit <| hK10 _ _ <| sgB kj <| sgC fun K19 hK19=>sg 1 kj <| Qaa (.int .i64 ((t.length%32:Nat):Int)) 30 rfl kj (Qag (u:=.int .i64 (Int.tmod (((t.length:Nat):Int)) (32))) kj (congrArg (Value.int .i64) (Qbr _ 32))) <| Qaa (.int .i64 (((t.length%32)*8:Nat):Int)) 31 rfl kj (Qag (u:=.int .i64 (IntKind.i64.wrap (((t.length%32:Nat):Int)*8))) kj (congrArg (Value.int .i64) (i64n _ _ (by omega) (by omega)))) <| Qaa (.int .u8 (((8*t.length/256^0%256:Nat):Int))) 32 rfl kj (Qag (u:=.int .u8 (IntKind.u8.wrap (((t.length%32)*8:Nat):Int))) kj (congrArg (Value.int .u8) (le_0 _))) <| Qa9 (ints .u8 ([(((8*t.length/256^0%256:Nat):Int))])) 5 1 33 rfl kj kj fun g20 W6 l20 e6 r20_6=>?_
  have x6:=Ext.tr xx1 e6
  have b20:=qT xx1.size l20
  refine sg 1 kj <| sgN hK19 <| sgC fun K21 hK21=>sg 1 kj <| Qaa (.int .i64 ((t.length/32:Nat):Int)) 35 rfl kj (Qag (u:=.int .i64 (IntKind.i64.wrap (Int.tdiv (((t.length:Nat):Int)) (32)))) kj (congrArg (Value.int .i64) (Qb7 _ 32 (by omega)))) <| sg 1 kj <| sgN hK21 <| wp_seq_k fun K22 hK22=>wp_block <| Qay (fun (s2:Nat×Value)=>[(0,.slice a_t t.length c_t),(1,.int .i64 64),(2,.int .i64 8),(7,.slice a7 ((t++128::List.replicate (QaP t.length) 0).length) c7),(8,.int .i64 ((8*t.length/256^s2.1:Nat):Int)),(9,s2.2)]) (fun (s2:Nat×Value) W=>(1≤s2.1)∧(s2.1≤8)∧(OwnN .u8 5 w.heap.size (t++128::List.replicate (QaP t.length) 0) (.slice a7 ((t++128::List.replicate (QaP t.length) 0).length) c7) W)∧(OwnN .u8 5 V1.heap.size (leP t.length s2.1) s2.2 W)∧(Ext V1 W)∧(Ext w W)) (fun (s2:Nat×Value)=>8-s2.1) (1,.slice (some ⟨g20,0,none⟩) 1 1) ⟨kj,kj,kj,kj,(congrArg (fun z:Nat=>Value.int .i64 (z:Int)) (q_1 _).symm),kj,trivial⟩ ⟨(qR _),(show (1:Nat)≤8 by decide),(hu.ext e6),(Qb4 (xs:=leP t.length 1) rfl l20 r20_6 (by decide)),(Rely.Ext.trans (Rely.Ext.refl V1) e6),x6⟩ fun s2 X2 V2 hI2=>?_
  obtain ⟨j,u⟩:=s2
  obtain ⟨hj1,hj,h7,hu9,hv9,xx2⟩:=hI2
  replace hj1:1≤j:=hj1
  replace hj:j≤8:=hj
  replace h7:OwnN .u8 5 w.heap.size (t++128::List.replicate (QaP t.length) 0) (.slice a7 ((t++128::List.replicate (QaP t.length) 0).length) c7) V2:=h7
  replace hu9:OwnN .u8 5 V1.heap.size (leP t.length j) u V2:=hu9
  replace hv9:Ext V1 V2:=hv9
  replace xx2:Ext w V2:=xx2
  obtain ⟨a9,c9,rfl,-⟩:=id (OwnN.rd hu9)
  have hq8:8*t.length/256^j≤8000000000:=qT (Nat.div_le_self _ _) (by omega)
  refine wp_seq_k fun K24 hK24=>sgC fun K25 hK25=>sg 3 kj <| Qaa (.bool (decide (j<8))) 39 rfl kj (Qag (u:=.bool (decide ((((leP t.length j).length:Nat):Int)<8))) kj (congrArg Value.bool (Qle _ _))) <| sgN hK25 <| Qaq (t:=decide (j<8)) kj (fun c26=>?_) (fun c26=>?_)
  ·skip
   have hlt39:j<8:=by have:=of_decide_eq_true c26; omega
   refine wp_skip <| hK24 _ _ <| wp_block <| sgC fun K27 hK27=>sg 2 kj <| Qaa (.int .i64 (((8*t.length/256^j)%256:Nat):Int)) 42 rfl kj (Qag (u:=.int .i64 (Int.tmod (((8*t.length/256^j:Nat):Int)) (256))) kj (congrArg (Value.int .i64) (Qbr _ 256))) <| Qaa (.int .u8 (((8*t.length/256^j%256:Nat):Int))) 43 rfl kj (Qag (u:=.int .u8 (IntKind.u8.wrap (((8*t.length/256^j)%256:Nat):Int))) kj (congrArg (Value.int .u8) (le_j _))) <| Qa9 (ints .u8 ([(((8*t.length/256^j%256:Nat):Int))])) 5 1 44 rfl kj kj fun g28 W8 l28 e8 r28_8=>?_
   have b28:=qT xx2.size l28
   refine QaC (k:=.u8) (T:=5) (xs:=leP t.length j) (ys:=[(((8*t.length/256^j%256:Nat):Int))]) (V:=V1) 1 (.tmp 40) (.tmp 44) 59 rfl kj kj (by decide) 45 rfl kj kj kj (hu9.ext e8) (QaJ (xs:=[(((8*t.length/256^j%256:Nat):Int))]) (n:=1) rfl r28_8 (Qa5 r28_8) (show 1≤maxLen from by decide)) (by rw [Qeu]; show _+1≤_; omega) (Rely.Ext.trans hv9 e8) fun z4 W9 f30 y9 l9=>?_
   have x9:=Ext.low (Ext.tr xx2 e8) l9 xx1.size
   refine sg 1 kj <| sgN hK27 <| Qad <| sg 1 kj <| Qaa (.int .i64 (((8*t.length/256^j)/256:Nat):Int)) 47 rfl kj (Qag (u:=.int .i64 (IntKind.i64.wrap (Int.tdiv (((8*t.length/256^j:Nat):Int)) (256)))) kj (congrArg (Value.int .i64) (Qb7 _ 256 (by omega)))) <| sg 1 kj <| Qaj ?_
   repeat (first | with_reducible refine goX1 ?_ | with_reducible refine goX2 ?_ | with_reducible refine goX3 ?_)
   exact Qap ((j+1),z4) ⟨kj,kj,kj,kj,(congrArg (fun z:Nat=>Value.int .i64 (z:Int)) (q_j _ _)),kj,trivial⟩ ⟨(by omega),(by omega),(OwnN.low (n:=0) (h7.ext e8) hu l9),(by rw [Qjb]; exact f30),y9,x9⟩ (by show 8-(j+1)<8-j; omega)
  ·skip
   have heq39:j=8:=by have:=of_decide_eq_false c26; omega
   subst heq39
   refine wp_exit <| hK22 _ _ <| wp_seq_k fun K34 hK34=>sgB kj <| wp_block ?_
   obtain ⟨g9,o9,ha9,hl0,hc0⟩:=QaO (OwnN.rd hu9) (by rw [Qeu]; decide)
   have hne0:(Value.slice a7 (t++128::List.replicate (QaP t.length) 0).length c7).ownBlock≠some g9:=fun e=>by
    have h1:=OwnN.lt hu e
    have h2:=OwnN.ge hu9 (g:=g9) (by rw [ha9]; rfl)
    omega
   refine Qay (fun (s3:Nat×Value)=>[(7,s3.2),(9,.slice a9 ((leP t.length 8).length) c9),(10,.int .i64 ((7:Int)-((s3.1:Nat):Int)))]) (fun (s3:Nat×Value) W=>(s3.1≤8)∧(OwnN .u8 5 w.heap.size (t++128::List.replicate (QaP t.length) 0++(be8 (8*t.length)).take s3.1) s3.2 W)∧(g9<W.heap.size)∧(s3.2.ownBlock≠some g9)∧(∀ i,i<(leP t.length 8).length→W.cell? ⟨g9,o9+i,none⟩=some (.int .u8 (nth (leP t.length 8) i)))∧(Ext w W)) (fun (s3:Nat×Value)=>8-s3.1) (0,.slice a7 ((t++128::List.replicate (QaP t.length) 0).length) c7) ⟨kj,kj,kj,trivial⟩ ⟨(Nat.zero_le _),(by rw [List.take_zero,List.append_nil]; exact h7),hl0,hne0,hc0,xx2⟩ fun s3 X3 V3 hI3=>?_
   obtain ⟨j,u⟩:=s3
   obtain ⟨hj,hu,hl,hne,hcl,xx3⟩:=hI3
   replace hj:j≤8:=hj
   replace hu:OwnN .u8 5 w.heap.size (t++128::List.replicate (QaP t.length) 0++(be8 (8*t.length)).take j) u V3:=hu
   replace hl:g9<V3.heap.size:=hl
   replace hne:u.ownBlock≠some g9:=hne
   replace hcl:∀ i,i<(leP t.length 8).length→V3.cell? ⟨g9,o9+i,none⟩=some (.int .u8 (nth (leP t.length 8) i)):=hcl
   replace xx3:Ext w V3:=xx3
   refine wp_seq_k fun K36 hK36=>sgC fun K37 hK37=>sg 1 kj <| Qaa (.bool (decide (j<8))) 51 rfl kj (Qag (u:=.bool (decide (((7:Int)-((j:Nat):Int))≥0))) kj (congrArg Value.bool (Qlk j hj))) <| sgN hK37 <| Qaq (t:=decide (j<8)) kj (fun c38=>?_) (fun c38=>?_)
   ·skip
    have hlt51:j<8:=by have:=of_decide_eq_true c38; omega
    refine wp_skip <| hK36 _ _ <| wp_seq_k fun K39 hK39=>wp_block <| Qad <| sg 3 kj <| Qaa (.pointer (some ⟨g9,o9+(7-j),none⟩)) 57 rfl kj (Qa1 59 _ _ .i64 (7-j) g9 o9 (leP t.length 8).length c9 5 a9 ((7:Int)-((j:Nat):Int)) ha9 (by omega) rfl kj kj kj kj (by rw [Qeu]; omega)) ?_
    refine Qaa (.int .u8 (nth (be8 (8*t.length)) j)) 58 rfl kj (Qai 5 _ _ (.int .u8 (nth (be8 (8*t.length)) j)) ((hcl (7-j) (by rw [Qeu]; omega)).trans (congrArg (fun z=>some (Value.int .u8 z)) (QmI _ j hlt51))) rfl kj kj) ?_
    refine Qa9 (ints .u8 ([(nth (be8 (8*t.length)) j)])) 5 1 59 rfl kj kj fun g40 W9 l40 e9 r40_9=>?_
    have x9:=Ext.tr xx3 e9
    have b40:=qT xx3.size l40
    have hl4:=qL hl e9.size
    have hb4:=e9.block g9 hl
    refine QfY (k:=.u8) (T:=5) (xs:=t++128::List.replicate (QaP t.length) 0++(be8 (8*t.length)).take j) (ys:=[(nth (be8 (8*t.length)) j)]) (V:=w) 1 (.tmp 54) (.tmp 59) 59 rfl kj kj (by decide) 60 rfl kj kj kj (hu.ext e9) (QaJ (xs:=[(nth (be8 (8*t.length)) j)]) (n:=1) rfl r40_9 (Qa5 r40_9) (show 1≤maxLen from by decide)) hl4 hne (by simp [be8]; unfold QaP; omega) (Rely.Ext.trans xx3 e9) fun z5 W10 f42 y10 l10 hP=>?_
    refine sg 1 kj <| Qaj <| hK39 _ _ <| Qad <| sg 1 kj <| Qaa (.int .i64 ((7:Int)-((j+1:Nat):Int))) 53 rfl kj (Qag (u:=.int .i64 (IntKind.i64.wrap (((7:Int)-((j:Nat):Int))-1))) kj (congrArg (Value.int .i64) (QmM j (by omega)))) <| sg 1 kj <| Qaj ?_
    repeat (first | with_reducible refine goX1 ?_ | with_reducible refine goX2 ?_ | with_reducible refine goX3 ?_)
    exact Qap ((j+1),z5) ⟨kj,kj,kj,trivial⟩ ⟨(by omega),(by rw [Ql2 _ _ hlt51,←List.append_assoc]; exact f42),hP.2.1,hP.1,(fun i hi=>(World.cell?_of_block (hP.2.2.trans hb4)).trans (hcl i hi)),(Ext.low x9 l10 (Rely.Ext.refl w).size)⟩ (by show 8-(j+1)<8-j; omega)
   ·skip
    have heq51:j=8:=by have:=of_decide_eq_false c38; omega
    subst heq51
    refine wp_exit <| hK34 _ _ <| sgB kj <| wp_ret ?_
    repeat (first | with_reducible refine goR1 ?_ | with_reducible refine goR2 ?_)
    exact (show bodyPost _ _ _ .ret _ _ from ret1 (u) rfl (Qar kj) ⟨_,rfl,xx3,QkH t▸hu⟩)
end Go.Proofs.YthfkppjajmjpnaaDoor.Sha
end
